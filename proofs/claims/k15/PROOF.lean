import PyProof.Rows.All
import Wide.All
import OpenK.AllK
import Wide.FinOn
import PyProof.Rows.SortShell
import HandS.ForMost
import HandS.IsInst
import HandS.SortKw
import HandS.RaiseMore
import HandS.Codes
import HandS.Deep
import KE.KIntText
import KE.KDictSum
import HandS.Conv
import HandS.Sort
import HandS.Dict
import HandS.SetKeys
import HandS.WordsDict
import HandS.GenList
import HandS.Nested
import HandS.AnyAll
import PyProof.TupleOfGen
import HandS.EndTab
import HandS.TupAny
import KE.KDictPairs
import HandS.SortInts
import KE.GoesEnum
import KE.DataCmp
import HandS.Walk
import HandS.Steps
import HandS.Zip0
import KE.KDictZip
import HandS.DictComp
import HandS.Flow
import HandS.More
import HandS.Iter
import PySem.Challenge.RW_openrules_k15_numbered_rules
set_option Elab.async false
set_option linter.all false
set_option maxRecDepth 100000
set_option maxHeartbeats 4000000
set_option maxRecDepth 100000
set_option maxHeartbeats 4000000
/-! machine rules of our own: list.extend of a tuple, a tuple's slice [:0:-1], max(xs, default=d) -/
namespace Lw
open PySem PySem.Spec PyProof.Rows L2

/-! ### list.extend(tuple) -/
section
variable {X : Cx}
def rExtT (K : PySem.W.Frag) : V → List V → Hp → VK → Prop := fun x vs H Q => ∃ l b xs zs, x = .ref l ∧ vs = [.ref b] ∧ H l = some (.lst xs) ∧ SqT K H b zs ∧ xs.length + zs.length ≤ 1000000 ∧ Q .non (upd H l (.lst (xs ++ zs)))
theorem le_line {n : Nat} (h : n ≤ 1000000) : n ≤ sizeLine := by rw [sizeLine_eq]; omega
theorem mt_extT : MtM X "list.extend" (rExtT X.K) := by
  intro pins s σ H x vs v us Q I rx rv h
  obtain ⟨l, b, xs, zs, rfl, rfl, hH, hB, hz, q⟩ := h
  cases rx
  obtain ⟨u, rfl, ru⟩ := rv.one
  cases ru
  obtain ⟨z1, itA, nA, rA, lenA, eA⟩ := I.lstM hH
  obtain ⟨itB, rB, pB, _⟩ := I.tuple hB
  have lenB := rB.length
  have lA := rA.length
  have hzz : itA.toArray.size + itB.toArray.size ≤ sizeLine := by rw [List.size_toArray, List.size_toArray, ← lA, ← lenB]; exact le_line hz
  have hlong : ¬ (!itA.toArray.isEmpty && Builtin.List.listTooLong (itA.toArray.size + itB.toArray.size)) = true := by
    rw [notLongL hzz, Bool.and_false]
    exact Bool.false_ne_true
  obtain ⟨oB, gB, cB, nB, dB⟩ := id pB
  refine wpAny_call_entry F.slot_list_extend ⟨_, eA, rfl⟩ F.entry_list_extend ?_ (F.args_list_extend_2 _ _)
  show wpAny (model X.prog X.w) X.A.in1 (Builtin.List.listExtendWith (.ref l) (.ref b) .none) _ _ s
  unfold Builtin.List.listExtendWith
  refine wpAny_bind (wpAny_typeOf pB.typeIs ?_)
  have ht : (Builtin.List.listSameRef (.ref l) (.ref b) || (Value.type "tuple" == Value.type "list") || (Value.type "tuple" == Value.type "tuple")) = true := by
    rw [show (Value.type "tuple" == Value.type "tuple") = true by decide, Bool.or_true]
  rw [if_pos ht]
  refine wpAny_bind (listItems_at gB dB (wpAny_bind (listItems_at eA rfl ?_)))
  rw [if_neg hlong]
  refine wpAny_bind (listUpdate_at eA rfl ?_ (by omega) (by show (itA.toArray ++ itB.toArray).size ≤ _; rw [Array.size_append]; omega))
  refine wpAny_pure ⟨_, rfl, .non, _, I.lset (its' := itA ++ itB) hH eA (by simp) (rA.append rB) ?_, rfl, q⟩
  rw [List.length_append]
  exact le_line hz
end
end Lw

set_option maxRecDepth 100000
set_option maxHeartbeats 4000000
/-! a tuple's slice [:0:-1] -/
namespace Lw
open PySem PySem.Spec PyProof.Rows L2

theorem adj_down (n : Nat) (h : 0 < n) : Builtin.Slice.sliceAdjust none (some 0) (-1) (n : Int) = ((n : Int) - 1, 0) := by
  unfold Builtin.Slice.sliceAdjust
  have h1 : ((-1 : Int) < 0) := by decide
  simp only [h1, if_true]
  refine Prod.ext rfl ?_
  simp only [Int.lt_irrefl, if_false]
  omega
theorem plc_down (n : Nat) (h : 0 < n) : Builtin.Slice.slicePlaces ((n : Int) - 1) 0 (-1) = n - 1 := by
  unfold Builtin.Slice.slicePlaces
  have h1 : ¬ ((-1 : Int) > 0) := by decide
  simp only [h1, if_false]
  rw [show (- -1 : Int) = 1 by decide, Int.ediv_one]
  split <;> omega
theorem filterMap_some {α β : Type} (f : α → Option β) (g : α → β) : ∀ l : List α, (∀ a ∈ l, f a = some (g a)) → l.filterMap f = l.map g
  | [], _ => rfl
  | a :: l, h => by
    rw [List.filterMap_cons_some (h a List.mem_cons_self), filterMap_some f g l fun b hb => h b (List.mem_cons_of_mem _ hb)]
    rfl
theorem pick_down (y : Value) (xs : List Value) : (List.range ((y :: xs).toArray.size - 1)).filterMap (fun (k : Nat) => (y :: xs).toArray[((((y :: xs).toArray.size : Nat) : Int) - 1 + (k : Int) * (-1)).toNat]?) = xs.reverse := by
  have hs : (y :: xs).toArray.size = xs.length + 1 := by rw [List.size_toArray, List.length_cons]
  rw [hs, Nat.add_sub_cancel]
  have e : (fun (k : Nat) => (y :: xs).toArray[(((xs.length + 1 : Nat) : Int) - 1 + (k : Int) * (-1)).toNat]?) = fun (k : Nat) => (y :: xs)[((xs.length : Int) - (k : Int)).toNat]? := by
    funext k
    rw [List.getElem?_toArray]
    congr 1
    omega
  rw [e]
  rw [filterMap_some _ (fun k => (y :: xs).getD (xs.length - k) y) (List.range xs.length) (fun k hk => by
    have hk' := List.mem_range.mp hk
    have ek : ((xs.length : Int) - (k : Int)).toNat = xs.length - k := by omega
    rw [ek, List.getD_eq_getElem?_getD]
    rw [List.getElem?_eq_getElem (show xs.length - k < (y :: xs).length by rw [List.length_cons]; omega)]
    rfl)]
  apply List.ext_getElem
  · rw [List.length_map, List.length_range, List.length_reverse]
  · intro i h1 h2
    rw [List.length_map, List.length_range] at h1
    rw [List.getElem_map, List.getElem_range, List.getElem_reverse, List.getD_eq_getElem?_getD]
    rw [List.getElem?_eq_getElem (show xs.length - i < (y :: xs).length by rw [List.length_cons]; omega), Option.getD_some]
    have e2 : xs.length - i = (xs.length - 1 - i) + 1 := by omega
    simp only [e2, List.getElem_cons_succ]
theorem vals_rev : ∀ {xs : List V} {us : List Value}, Vals xs us → Vals xs.reverse us.reverse
  | _, _, .nil => .nil
  | _, _, .cons r t => by
    rw [List.reverse_cons, List.reverse_cons]
    exact (vals_rev t).append (.cons r .nil)
section
variable {prog : Program} {w : World} {A : Around} {E : Value → Shared → Prop} {s : Shared}
theorem applied_down {sl : Addr} {u0 : Tok} {u1 : Tok} {n : Nat} {Q : Int × Int × Nat → Shared → Prop} (hn : 0 < n) (hs : s.heap.IsSliceOf sl .none (.int 0 u0) (.int (-1) u1))
    (h : Q ((n : Int) - 1, -1, n - 1) s) : wpAny (model prog w) A (Builtin.Slice.sliceApplied (.ref sl) (pure (n : Int))) Q E s := by
  obtain ⟨ob, gb, _, db⟩ := hs
  unfold Builtin.Slice.sliceApplied Builtin.Slice.sliceFields
  refine wpAny_bind (wpAny_bind (wpAny_field gb db (x := .none) rfl (wpAny_bind (wpAny_field gb db (x := .int 0 u0) rfl (wpAny_bind (wpAny_field gb db (x := .int (-1) u1) rfl (wpAny_pure ?_)))))))
  refine wpAny_bind (slicePart_int ?_)
  show wpAny _ _ (if ((-1 : Int) == 0) = true then _ else _) _ _ s
  rw [if_neg (by decide)]
  refine wpAny_bind (slicePart_none (wpAny_bind (slicePart_int (wpAny_bind (wpAny_pure ?_)))))
  show wpAny _ _ (match Builtin.Slice.sliceAdjust none (some 0) (-1) (n : Int) with | (lo, hi) => pure (lo, (-1 : Int), Builtin.Slice.slicePlaces lo hi (-1))) _ _ s
  rw [adj_down n hn]
  show wpAny _ _ (pure ((n : Int) - 1, (-1 : Int), Builtin.Slice.slicePlaces ((n : Int) - 1) 0 (-1))) _ _ s
  rw [plc_down n hn]
  exact wpAny_pure h
theorem item_down {t sl : Addr} {y : Value} {xs : List Value} {u0 u1 : Tok} {Q : Value → Shared → Prop} (ht : IsTup s.heap t (y :: xs).toArray) (hs : s.heap.IsSliceOf sl .none (.int 0 u0) (.int (-1) u1))
    (h : Q (.ref s.heap.objs.size) { s with heap := s.heap.push { cls := .type "tuple", data := .seq xs.reverse.toArray } }) (hz : xs.length ≤ sizeLine) : wpAny (model prog w) A (getItem (.ref t) (.ref sl)) Q E s := by
  have htake : sizeOk (.seq xs.reverse.toArray) := by
    show xs.reverse.toArray.size ≤ sizeLine
    rw [List.size_toArray, List.length_reverse]
    exact hz
  obtain ⟨ob, gb, cb, db⟩ := id hs
  have hTs : s.TypeIs (.ref sl) "slice" := ⟨ob, gb, cb⟩
  unfold getItem
  with_reducible refine wpAny_holding ?_; refine wpAny_bind (wpAny_sequenceKey ht.typeIs (by decide) ?_)
  refine wpAny_bind (wpAny_callSpecial?_slot (name := Str.ofString "__getitem__") ht.typeIs PyProof.Rows.slot_tuple_getitem (wpAny_call_entry PyProof.Rows.slot_tuple_getitem ht.typeIs entry_tuple_getitem ?_ (args_tuple_getitem _ _)))
  show wpAny _ _ (Builtin.Tuple.tupleItemsOf (.ref t) >>= fun xs => _) _ _ s
  refine wpAny_bind (tupleItemsOf_ ht (wpAny_bind (wpAny_typeOf hTs ?_)))
  rw [if_pos (by decide)]
  refine wpAny_bind (applied_down (by rw [List.size_toArray, List.length_cons]; omega) hs ?_)
  have hno : ¬ (((((y :: xs).toArray.size : Nat) : Int) - 1 == 0 && (-1 : Int) == 1 && ((y :: xs).toArray.size - 1) == (y :: xs).toArray.size) = true) := by
    rw [show ((-1 : Int) == 1) = false by decide, Bool.and_false, Bool.false_and]
    exact Bool.false_ne_true
  show wpAny _ _ (if ((((y :: xs).toArray.size : Nat) : Int) - 1 == 0 && (-1 : Int) == 1 && ((y :: xs).toArray.size - 1) == (y :: xs).toArray.size) = true then _ else _) _ _ s
  rw [if_neg hno, pick_down]; exact wpAny_bind (m := Builtin.Tuple.tupleExact _) (wpAny_newObj_type (wpAny_pure ⟨_, rfl, wpAny_pure h⟩) htake)
end
def tDownT (K : PySem.W.Frag) (te : TE) : TE := fun σ H Q => te σ H fun x H1 => ∃ a y xs, x = .ref a ∧ SqT K H1 a (y :: xs) ∧ ∀ p, H1 p = none → Q (.ref p) (upd H1 p (.tup xs.reverse))
section
variable {X : Cx}
theorem pe_downT {e : Expr} {te : TE} {k k2 : Nat} {p0 p1 p2 p3 pos : Pos} (he : PE X e te) : PE X (.Subscript e (.Slice none (some (.Constant (.int 0) k2 p0)) (some (.UnaryOp .USub (.Constant (.int 1) k p1) p2)) p3) pos) (tDownT X.K te) := by
  refine ⟨fun pins s σ H Q I h => ?_⟩
  refine Subscript_ (thn (he.run pins s σ H _ I h) fun v s1 ⟨x, H1, I1, r1, q1⟩ => ?_)
  obtain ⟨a, y, xs, ex, hx, q⟩ := q1
  subst ex
  cases r1
  have hst : PO X (some (.UnaryOp .USub (.Constant (.int 1) k p1) p2)) (tPart (tUn (rU fun i => .int (-i)) (tC (.int 1)))) := po_some (pe_un un_neg pe_int)
  have hup : PO X (some (.Constant (.int 0) k2 p0)) (tPart (tC (.int 0))) := po_some pe_int
  refine wpAny_Slice (thn (po_none.run pins s1 σ H1 (fun o H2 => o = none ∧ H2 = H1) I1 ⟨rfl, rfl⟩) fun vl s2 ⟨l, H2, I2, pl, el, e2⟩ => ?_)
  subst el e2
  refine thn (hup.run pins s2 σ H2 (fun o H3 => o = some 0 ∧ H3 = H2) I2 ⟨0, rfl, rfl, rfl⟩) fun vu s3 ⟨u, H3, I3, pu, eu, e3⟩ => ?_
  subst eu e3
  refine thn (hst.run pins s3 σ H3 (fun o H4 => o = some (-1) ∧ H4 = H3) I3 ⟨1, rfl, -1, rfl, rfl, rfl⟩) fun vs s4 ⟨o, H4, I4, ps, eo, e4⟩ => ?_
  subst eo e4
  cases pl
  cases pu with | int _ t0 => ?_
  cases ps with | int _ t1 => ?_
  have I5 : Inv X pins σ H4 { s4 with heap := s4.heap.push { cls := .type "slice", data := .fields #[.none, .int 0 t0, .int (-1) t1] } } := I4.kept (t' := s4.toks) fun b ob q => Heap.get?_push_of_some _ q
  obtain ⟨its, r, ht, hz⟩ := I5.tuple hx
  cases r with | cons ry rxs => ?_
  rename_i uy us
  have hlen := rxs.length
  rw [List.length_cons] at hz
  refine tail_any (ops := [.ref a, .ref s4.heap.objs.size]) ht.typeIs (PyProof.Rows.slot_tuple_getitem.lookup) ?_ (by with_unfolding_all rfl)
  refine item_down ht (Heap.IsSliceOf.new _ _ _ _) ?_ (by omega)
  refine ⟨.ref _, _, I5.laid (t' := s4.toks) (o := .tup xs.reverse) (fun b ob q => Heap.get?_push_of_some _ q) (Nat.le_refl _) ?_, rfl, q _ (I5.hok.fresh (Nat.le_refl _))⟩
  exact ⟨by rw [List.length_reverse]; omega, _, vals_rev rxs, IsTup.new _ _⟩
end
end Lw

set_option maxRecDepth 100000
set_option maxHeartbeats 4000000
/-! max(xs, default=d) of a list of ints -/
namespace Lw
open PySem PySem.Spec PyProof.Rows L2

theorem fun_tree_kw {prog : Program} {w : World} {A : Around} {E : Value → Shared → Prop} {s : Shared} {id : String} {b : Builtin} {args : List Value} {kw : List (Str × Value)} {Q : Value → Shared → Prop}
    (hk : builtinKind id = none) (hp : plainId id = true) (hb : entryFor table id = some b) (ha : argsOk id ⟨args, kw⟩)
    (hc : wpAny (model prog w) A.in1 (b ⟨args, kw⟩) (fun fin s2 => match fin with
      | .done f => (match (Except.ok f : Result) with | .ok (.ret v) => Q v s2 | .ok _ => False | .error e => E e s2)
      | .again c2 => c2.quiet = true ∧ codeAny (model prog w) A c2 (fun r s3 => match r with | .ok (.ret v) => Q v s3 | .ok _ => False | .error e => E e s3) s2) E s) :
    wpAny (model prog w) A (call (.builtin id) args kw) Q E s := by
  refine wpAny_call (codeAny_call_builtin hp hb ?_)
  simp only [checkBuiltinCall, hk]
  cases hsig : Manifest.signature? id with
  | none => exact wpAny_pure hc
  | some sig =>
    have h2 : Bind.checkArgs id sig ⟨args, kw⟩ = pure () := by simpa only [argsOk, hsig] using ha
    show wpAny _ A.in1 (Bind.checkArgs id sig ⟨args, kw⟩) _ _ s
    rw [h2]
    exact wpAny_pure hc

section
variable {prog : Program} {w : World} {A : Around} {E : Value → Shared → Prop}
variable {I : Addr} {fp wr : List Addr} {G : Array GenState → Array GenState → Prop} {n : Nat} {P : Nat → Value → Prop} {St : Nat → Shared → Prop} {R : Result → Shared → Prop}

theorem nm_max : (toString "max" ++ toString ".loop" : String) = "max.loop" := by decide

/-- the loop behind its first item, whatever the keywords -/
theorem max_on (kw : List (Str × Value)) (W : WalksS prog w A.in1 I fp wr G n P St) (bt : Nat → Nat → Bool) (hcmp : CmpOf prog w A.in1 .Gt P bt) (S : Addr) (hSf : S ∉ fp) :
    ∀ (m j : Nat) (s : Shared) (vb : Value) (c : Nat), n - (j + 1) = m → j + 1 ≤ n → St (j + 1) s → P (argBest bt j) vb →
    s.heap.get? S = some { cls := .type "list", dict := none, data := .seq #[vb, vb] c, slots := #[] } → (∀ v s2, P (argBest bt (n - 1)) v → Moved (S :: wr) G s s2 → R (.ok (.ret v)) s2) →
    codeAny (model prog w) A (.builtin "max.loop" ⟨[.ref I, .none, .ref S], kw⟩) R s := by
  have hSw : S ∉ wr := fun h => hSf (W.sub _ h)
  have more : ∀ b ∈ wr, b ∈ S :: wr := fun b hb => List.mem_cons_of_mem _ hb
  have offS : ∀ {b : Addr}, b ∉ S :: wr → S ≠ b := fun hb h => hb (by rw [h]; exact List.mem_cons_self)
  intro m
  induction m with
  | zero =>
    intro j s vb c hk hj hst hPb hS hR
    have last : j + 1 = n := by omega
    refine codeAny_builtin F.entry_max_loop ?_
    rw [Around.under_plainId F.plain_max_loop _]
    refine wpAny_bind (wpAny_seqItems hS rfl ?_)
    refine wpAny_bind (wpAny_tryCatch (W.done s _ _ (last ▸ hst) fun s2 hm => ?_))
    have hS2 := hm.heap S _ hSw hS
    refine wpAny_bind (m := updateSeq S fun _ => #[]) ?_
    refine wpAny_updateSeq hS2 rfl (wpAny_bind (wpAny_letGo (wpAny_pure ?_)))
    exact hR vb _ (by rw [← last]; exact hPb) ((hm.mono more).then_heap (tk := s2.toks) (Nat.le_refl _) fun b o hb e => (Heap.get?_update_other _ _ (offS hb)).trans e)
  | succ m ih =>
    intro j s vb c hk hj hst hPb hS hR
    have more1 : j + 1 < n := by omega
    refine codeAny_builtin F.entry_max_loop ?_
    rw [Around.under_plainId F.plain_max_loop _]
    refine wpAny_bind (wpAny_seqItems hS rfl ?_)
    refine wpAny_bind (wpAny_tryCatch (W.item (j + 1) s _ _ more1 hst fun v s2 hP hst2 hm => ?_))
    have hS2 := hm.heap S _ hSw hS
    show wpAny _ A.in1 (tryCatch (holding [v, v] (richCompare .Gt v vb >>= fun answer => _)) _ >>= _) _ _ s2
    refine wpAny_bind (wpAny_tryCatch (wpAny_holding (wpAny_bind (hcmp (j + 1) (argBest bt j) v vb _ _ _ hP hPb (wpAny_bind (wpAny_holding (wpAny_truthy_bool (wpAny_bind (wpAny_letGo (wpAny_pure ?_))))))))))
    cases hb : bt (j + 1) (argBest bt j) with
    | true =>
      simp only [if_true]
      refine wpAny_bind (wpAny_updateSeq hS2 rfl (wpAny_bind (wpAny_letGo ?_)))
      rw [nm_max]
      refine wpAny_pure ⟨plainId_quiet F.plain_max_loop _, ih (j + 1) _ v _ (by omega) more1 (W.frame _ s2 _ s2.toks hst2 (Nat.le_refl _) fun b hbf o e => ?_) (by simp only [argBest, hb, if_true]; exact hP)
        (Heap.get?_update_self _ hS2 rfl) fun v3 s3 hP3 hm3 => ?_⟩
      · exact (Heap.get?_update_other _ _ (fun z : S = b => hSf (z ▸ hbf))).trans e
      · exact hR v3 s3 hP3 (Moved.trans W.gtrans ((hm.mono more).then_heap (Nat.le_refl _) fun b o hb e => (Heap.get?_update_other _ _ (offS hb)).trans e) hm3)
    | false =>
      simp only [Bool.false_eq_true, if_false]
      refine wpAny_bind (wpAny_letGo ?_)
      rw [nm_max]
      refine wpAny_pure ⟨plainId_quiet F.plain_max_loop _, ih (j + 1) _ vb c (by omega) more1 hst2 (by simp only [argBest, hb, Bool.false_eq_true, if_false]; exact hPb) hS2 fun v3 s3 hP3 hm3 => ?_⟩
      exact hR v3 s3 hP3 (Moved.trans W.gtrans (hm.mono more) hm3)

theorem max_first (kw : List (Str × Value)) (W : WalksS prog w A.in1 I fp wr G n P St) (bt : Nat → Nat → Bool) (hcmp : CmpOf prog w A.in1 .Gt P bt) (S : Addr) (hSf : S ∉ fp) (hn : 0 < n) {s : Shared} {c : Nat} (hst : St 0 s)
    (hS : s.heap.get? S = some { cls := .type "list", dict := none, data := .seq #[] c, slots := #[] }) (hR : ∀ v s2, P (argBest bt (n - 1)) v → Moved (S :: wr) G s s2 → R (.ok (.ret v)) s2) :
    codeAny (model prog w) A (.builtin "max.loop" ⟨[.ref I, .none, .ref S], kw⟩) R s := by
  have hSw : S ∉ wr := fun h => hSf (W.sub _ h)
  have more : ∀ b ∈ wr, b ∈ S :: wr := fun b hb => List.mem_cons_of_mem _ hb
  have offS : ∀ {b : Addr}, b ∉ S :: wr → S ≠ b := fun hb h => hb (by rw [h]; exact List.mem_cons_self)
  refine codeAny_builtin F.entry_max_loop ?_
  rw [Around.under_plainId F.plain_max_loop _]
  refine wpAny_bind (wpAny_seqItems hS rfl ?_)
  refine wpAny_bind (wpAny_tryCatch (W.item 0 s _ _ hn hst fun v s2 hP hst2 hm => ?_))
  have hS2 := hm.heap S _ hSw hS
  show wpAny _ A.in1 (updateSeq S (fun _ => #[v, v]) >>= fun _ => _) _ _ s2
  refine wpAny_bind (wpAny_updateSeq hS2 rfl ?_)
  rw [nm_max]
  refine wpAny_pure ⟨plainId_quiet F.plain_max_loop _, max_on kw W bt hcmp S hSf _ 0 _ v _ rfl hn (W.frame _ s2 _ s2.toks hst2 (Nat.le_refl _) fun b hbf o e => ?_) hP (Heap.get?_update_self _ hS2 rfl) fun v3 s3 hP3 hm3 => ?_⟩
  · exact (Heap.get?_update_other _ _ (fun z : S = b => hSf (z ▸ hbf))).trans e
  · exact hR v3 s3 hP3 (Moved.trans W.gtrans ((hm.mono more).then_heap (Nat.le_refl _) fun b o hb e => (Heap.get?_update_other _ _ (offS hb)).trans e) hm3)

/-- no item: the default -/
theorem max_none {d : Value} (W : WalksS prog w A.in1 I fp wr G 0 P St) (S : Addr) (hSf : S ∉ fp) {s : Shared} {c : Nat} (hst : St 0 s)
    (hS : s.heap.get? S = some { cls := .type "list", dict := none, data := .seq #[] c, slots := #[] }) (hR : ∀ s2, Moved wr G s s2 → R (.ok (.ret d)) s2) :
    codeAny (model prog w) A (.builtin "max.loop" ⟨[.ref I, .none, .ref S], [("default", d)]⟩) R s := by
  refine codeAny_builtin F.entry_max_loop ?_
  rw [Around.under_plainId F.plain_max_loop _]
  refine wpAny_bind (wpAny_seqItems hS rfl ?_)
  refine wpAny_bind (wpAny_tryCatch (W.done s _ _ hst fun s2 hm => ?_))
  exact wpAny_bind (wpAny_rule (wpAny_pure (hR s2 hm)))
end
theorem args_maxD (a d : Value) : argsOk "max" ⟨[a], [("default", d)]⟩ := by unfold argsOk; kernel_rfl
end Lw

set_option maxRecDepth 100000
set_option maxHeartbeats 4000000
namespace Lw
open PySem PySem.Spec PyProof.Rows L2
section
variable {prog : Program} {w : World} {A : Around} {E : Value → Shared → Prop} {s : Shared} {l : Addr} {its : List Value} {ns : List Int} {Q : Value → Shared → Prop}
theorem max_rawD {d : Int} {td : Tok} (hh : A.handled = none) (hl : s.heap.IsList l its.toArray) (hi : IntsAre its ns)
    (h : ∀ h2 tk m t2, (∀ b o, s.heap.get? b = some o → h2.get? b = some o) → ((ns = [] ∧ m = d) ∨ (m ∈ ns ∧ ∀ a, a ∈ ns → a ≤ m)) → Q (.int m t2) { s with heap := h2, toks := tk }) :
    wpAny (model prog w) A (call (.builtin "max") [.ref l] [("default", .int d td)]) Q E s := by
  obtain ⟨xs, e⟩ := hi.allInts.items
  have hn : numsOf (intItems xs).toList = ns := by rw [← e]; exact hi.numsOf
  rw [nums_intItems] at hn
  subst hn
  rw [e] at hl
  refine fun_tree_kw F.kind_max F.plain_max F.entry_max (args_maxD _ _) ?_
  show wpAny _ A.in1 (Builtin.Builtins.bindParams "max" ["key", "default"] 0 ⟨[], [("default", .int d td)]⟩ >>= fun r => _) _ _ s
  refine wpAny_bind (wpAny_of_eq (show Builtin.Builtins.bindParams "max" ["key", "default"] 0 ⟨[], [("default", .int d td)]⟩ = pure [none, some (.int d td)] from rfl) ?_)
  refine wpAny_bind (wpAny_pure ?_)
  refine wpAny_bind (iter_intList hl fun s2 e2 st hfp hlI => ?_)
  have W0 := Walks.list (prog := prog) (w := w) (A := A.in1) hh _ l hlI (intItems xs)
  have W := W0.toS
  refine wpAny_bind (wpAny_newObj_type ?_)
  have hSf : s2.heap.objs.size ∉ [s.heap.objs.size, l] := fun hm => Nat.lt_irrefl _ (hfp _ hm)
  rw [nm_max]
  refine wpAny_pure ⟨plainId_quiet F.plain_max_loop _, ?_⟩
  have stN : (s2.heap.push { cls := .type "list", data := .seq #[] }).IsListIter s.heap.objs.size l 0 ∧ (s2.heap.push { cls := .type "list", data := .seq #[] }).IsList l (intItems xs) :=
    ⟨st.1.at fun o e => Heap.get?_push_of_some _ e, st.2.push _⟩
  have fin : ∀ (s3 : Shared) (m : Int) (t2 : Tok), Moved [s.heap.objs.size] (fun a b => b = a) s2 s3 → ((xs.toList.map (·.1) = [] ∧ m = d) ∨ (m ∈ xs.toList.map (·.1) ∧ ∀ a, a ∈ xs.toList.map (·.1) → a ≤ m)) → Q (.int m t2) s3 := by
    intro s3 m t2 hm hx
    have e3 : s3 = { s with heap := s3.heap, toks := s3.toks } := by
      have k1 := hm.gens
      have k2 := hm.drawn
      have k3 := hm.os
      obtain ⟨hp3, g3, d3, tk3, os3⟩ := s3
      simp only at k1 k2 k3 ⊢
      subst k1 k2 k3 e2
      rfl
    rw [e3]
    refine h _ _ _ _ (fun b o q => ?_) hx
    subst e2
    refine hm.heap b o (fun z => ?_) (Heap.get?_push_of_some _ q)
    rcases List.mem_cons.mp z with z | z
    · exact absurd (z ▸ Heap.lt_size q) (Nat.lt_irrefl _)
    · cases z
  by_cases h0 : xs.size = 0
  · have z0 : (intItems xs).size = 0 := by simpa [intItems] using h0
    have W2 := W
    rw [z0] at W2
    have ex : xs.toList.map (·.1) = [] := by
      rw [List.map_eq_nil_iff, ← List.length_eq_zero_iff, Array.length_toList]
      exact h0
    exact max_none W2 s2.heap.objs.size hSf stN (Heap.get?_push_size _ rfl) fun s3 hm => fin s3 d td
      ⟨fun b o hb q => hm.heap b o hb (Heap.get?_push_of_some _ q), hm.gens, hm.drawn, hm.os, hm.toks⟩ (.inl ⟨ex, rfl⟩)
  · have hp : 0 < (intItems xs).size := by
      have e4 : (intItems xs).size = xs.size := by simp [intItems]
      omega
    refine max_first _ W _ (CmpOf.ints_gt (numAt xs) (fun _ _ => intItems_at)) s2.heap.objs.size hSf hp stN (Heap.get?_push_size _ rfl) fun v s3 hv hm => ?_
    obtain ⟨t, rfl⟩ := intItems_at hv
    obtain ⟨h1, h2⟩ := argBest_gt (numAt xs) ((intItems xs).size - 1)
    have e4 : (intItems xs).size = xs.size := by simp [intItems]
    refine fin s3 _ t (Moved.drop_new hm (Nat.le_refl _)) (.inr ⟨?_, fun a ha => ?_⟩)
    · rw [numAt_eq]
      exact PySem.getD_mem (by rw [List.length_map, Array.length_toList]; omega)
    · obtain ⟨j, hj, rfl⟩ := mem_getD ha
      rw [List.length_map, Array.length_toList] at hj
      rw [← numAt_eq]
      exact h2 j (by omega)
end
section
variable {X : Cx}
/-- max(xs, default=d), xs a list of ints -/
def rMaxD (K : PySem.W.Frag) : List V → List V → Hp → VK → Prop := fun vs zs H Q => ∃ (a : Addr) (ns : List Int) (d : Int), vs = [V.ref a] ∧ zs = [V.int d] ∧ SqL K H a (ns.map V.int) ∧
  ∀ m : Int, ((ns = [] ∧ m = d) ∨ (m ∈ ns ∧ ∀ a, a ∈ ns → a ≤ m)) → Q (.int m) H
theorem cr_maxD (hc : X.calm = true) : CallRK X (.builtin "max") ["default"] (rMaxD X.K) := by
  intro pins s σ H xs zs us ws Q I r1 r2 h
  obtain ⟨a, ns, d, rfl, rfl, hs, q⟩ := h
  obtain ⟨its, rv, hl, _⟩ := I.list hs
  rw [Vals.ref1 r1]
  cases r2 with | cons rd rn => ?_
  cases rn
  obtain ⟨td, rfl⟩ := rd
  exact max_rawD (I.ok.hd hc) hl.isList rv.ints fun h2 tk m t2 hk hm => ⟨.int m, H, I.kept hk, ⟨_, rfl⟩, q m hm⟩
end
end Lw

set_option maxRecDepth 100000
set_option maxHeartbeats 4000000
/-! terms as data, and how the heap bears them -/
namespace Lw
open PySem L2

inductive Tm where
  | var (i : Int)
  | app (n : Str) (ts : List Tm)

mutual
def Tm.size : Tm → Nat
  | .var _ => 1
  | .app _ ts => 1 + Tm.sizes ts
def Tm.sizes : List Tm → Nat
  | [] => 0
  | t :: r => t.size + Tm.sizes r
end
mutual
def Tm.depth : Tm → Nat
  | .var _ => 1
  | .app _ ts => 1 + Tm.depths ts
def Tm.depths : List Tm → Nat
  | [] => 0
  | t :: r => max t.depth (Tm.depths r)
end
mutual
/-- all occurrences of subterms, a term before its arguments -/
def Tm.occ : Tm → List Tm
  | .var i => [.var i]
  | .app n ts => .app n ts :: Tm.occs ts
def Tm.occs : List Tm → List Tm
  | [] => []
  | t :: r => t.occ ++ Tm.occs r
end
theorem Tm.size_pos : ∀ t : Tm, 0 < t.size
  | .var _ => by unfold Tm.size; exact Nat.one_pos
  | .app _ ts => by unfold Tm.size; omega
theorem Tm.depth_pos : ∀ t : Tm, 0 < t.depth
  | .var _ => by unfold Tm.depth; exact Nat.one_pos
  | .app _ ts => by unfold Tm.depth; omega
theorem Tm.size_app (n : Str) (ts : List Tm) : (Tm.app n ts).size = 1 + Tm.sizes ts := by rw [Tm.size]
theorem Tm.size_var (i : Int) : (Tm.var i).size = 1 := by rw [Tm.size]
theorem Tm.depth_app (n : Str) (ts : List Tm) : (Tm.app n ts).depth = 1 + Tm.depths ts := by rw [Tm.depth]
theorem Tm.depth_var (i : Int) : (Tm.var i).depth = 1 := by rw [Tm.depth]
theorem Tm.sizes_nil : Tm.sizes [] = 0 := by rw [Tm.sizes]
theorem Tm.sizes_cons (t : Tm) (r : List Tm) : Tm.sizes (t :: r) = t.size + Tm.sizes r := by rw [Tm.sizes]
theorem Tm.depths_nil : Tm.depths [] = 0 := by rw [Tm.depths]
theorem Tm.depths_cons (t : Tm) (r : List Tm) : Tm.depths (t :: r) = max t.depth (Tm.depths r) := by rw [Tm.depths]
theorem Tm.occ_app (n : Str) (ts : List Tm) : (Tm.app n ts).occ = .app n ts :: Tm.occs ts := by rw [Tm.occ]
theorem Tm.occ_var (i : Int) : (Tm.var i).occ = [.var i] := by rw [Tm.occ]
theorem Tm.occs_nil : Tm.occs [] = [] := by rw [Tm.occs]
theorem Tm.occs_cons (t : Tm) (r : List Tm) : Tm.occs (t :: r) = t.occ ++ Tm.occs r := by rw [Tm.occs]
theorem Tm.sizes_append : ∀ a b : List Tm, Tm.sizes (a ++ b) = Tm.sizes a + Tm.sizes b
  | [], b => by rw [List.nil_append, Tm.sizes_nil, Nat.zero_add]
  | t :: a, b => by rw [List.cons_append, Tm.sizes_cons, Tm.sizes_cons, Tm.sizes_append a b]; omega
theorem Tm.occs_append : ∀ a b : List Tm, Tm.occs (a ++ b) = Tm.occs a ++ Tm.occs b
  | [], b => by rw [List.nil_append, Tm.occs_nil, List.nil_append]
  | t :: a, b => by rw [List.cons_append, Tm.occs_cons, Tm.occs_cons, Tm.occs_append a b, List.append_assoc]
theorem Tm.sizes_reverse (a : List Tm) : Tm.sizes a.reverse = Tm.sizes a := by
  induction a with
  | nil => rfl
  | cons t a ih => rw [List.reverse_cons, Tm.sizes_append, Tm.sizes_cons, Tm.sizes_cons, Tm.sizes_nil, ih]; omega
theorem Tm.depth_mem : ∀ {ts : List Tm} {t : Tm}, t ∈ ts → t.depth ≤ Tm.depths ts
  | a :: r, t, h => by
    rw [Tm.depths_cons]
    rcases List.mem_cons.mp h with e | h
    · rw [e]; exact Nat.le_max_left _ _
    · exact Nat.le_trans (Tm.depth_mem h) (Nat.le_max_right _ _)
theorem Tm.size_mem : ∀ {ts : List Tm} {t : Tm}, t ∈ ts → t.size ≤ Tm.sizes ts
  | a :: r, t, h => by
    rw [Tm.sizes_cons]
    rcases List.mem_cons.mp h with e | h
    · rw [e]; omega
    · have := Tm.size_mem h; omega
theorem Tm.depths_le {ts : List Tm} {d : Nat} (h : ∀ t ∈ ts, t.depth ≤ d) : Tm.depths ts ≤ d := by
  induction ts with
  | nil => rw [Tm.depths_nil]; exact Nat.zero_le _
  | cons t r ih =>
    rw [Tm.depths_cons]
    exact Nat.max_le.mpr ⟨h t List.mem_cons_self, ih fun u hu => h u (List.mem_cons_of_mem _ hu)⟩
theorem Tm.length_le_sizes : ∀ ts : List Tm, ts.length ≤ Tm.sizes ts
  | [] => by rw [Tm.sizes_nil]; exact Nat.le_refl _
  | t :: r => by
    have h1 := Tm.length_le_sizes r
    have h2 := t.size_pos
    rw [Tm.sizes_cons, List.length_cons]
    omega
mutual
theorem Tm.occ_len : ∀ t : Tm, t.occ.length = t.size
  | .var i => by rw [Tm.occ_var, Tm.size_var]; rfl
  | .app n ts => by rw [Tm.occ_app, Tm.size_app, List.length_cons, Tm.occs_len ts, Nat.add_comm]
theorem Tm.occs_len : ∀ ts : List Tm, (Tm.occs ts).length = Tm.sizes ts
  | [] => by rw [Tm.occs_nil, Tm.sizes_nil]; rfl
  | t :: r => by rw [Tm.occs_cons, Tm.sizes_cons, List.length_append, Tm.occ_len t, Tm.occs_len r]
end

/-- v stands for the term -/
inductive At (H : Hp) : V → Tm → Prop where
  | var (i : Int) : At H (.int i) (.var i)
  | app {a : Addr} {n : Str} {vs : List V} {ts : List Tm} (e : H a = some (.tup (.str n :: vs))) (hl : vs.length = ts.length) (hs : ∀ (i : Nat) v t, vs[i]? = some v → ts[i]? = some t → At H v t) : At H (.ref a) (.app n ts)
/-- lists of values stand for lists of terms -/
structure Ats (H : Hp) (vs : List V) (ts : List Tm) : Prop where
  len : vs.length = ts.length
  at' : ∀ (i : Nat) v t, vs[i]? = some v → ts[i]? = some t → At H v t
theorem Ats.nil {H : Hp} : Ats H [] [] := ⟨rfl, fun i v t h => by simp at h⟩
theorem Ats.cons {H : Hp} {v : V} {t : Tm} {vs : List V} {ts : List Tm} (h : At H v t) (r : Ats H vs ts) : Ats H (v :: vs) (t :: ts) :=
  ⟨by rw [List.length_cons, List.length_cons, r.len], fun i => by
    cases i with
    | zero => intro u w e1 e2; simp at e1 e2; rw [← e1, ← e2]; exact h
    | succ i => intro u w e1 e2; exact r.at' i u w (by simpa using e1) (by simpa using e2)⟩
theorem Ats.head {H : Hp} {v : V} {t : Tm} {vs : List V} {ts : List Tm} (h : Ats H (v :: vs) (t :: ts)) : At H v t := h.at' 0 v t rfl rfl
theorem Ats.tail {H : Hp} {v : V} {t : Tm} {vs : List V} {ts : List Tm} (h : Ats H (v :: vs) (t :: ts)) : Ats H vs ts :=
  ⟨by have := h.len; simpa using this, fun i u w e1 e2 => h.at' (i + 1) u w (by simpa using e1) (by simpa using e2)⟩
theorem Ats.append {H : Hp} : ∀ {vs : List V} {ts : List Tm} {ws : List V} {us : List Tm}, Ats H vs ts → Ats H ws us → Ats H (vs ++ ws) (ts ++ us)
  | [], [], _, _, _, b => b
  | [], _ :: _, _, _, a, _ => by have := a.len; simp at this
  | _ :: _, [], _, _, a, _ => by have := a.len; simp at this
  | _ :: _, _ :: _, _, _, a, b => .cons a.head (Ats.append a.tail b)
theorem Ats.one {H : Hp} {v : V} {t : Tm} (h : At H v t) : Ats H [v] [t] := .cons h .nil
theorem Ats.rev {H : Hp} : ∀ {vs : List V} {ts : List Tm}, Ats H vs ts → Ats H vs.reverse ts.reverse
  | [], [], _ => .nil
  | [], _ :: _, a => by have := a.len; simp at this
  | _ :: _, [], a => by have := a.len; simp at this
  | v :: vs, t :: ts, a => by
    rw [List.reverse_cons, List.reverse_cons]
    exact (Ats.rev a.tail).append (.one a.head)
theorem Ats.get {H : Hp} {vs : List V} {ts : List Tm} {i : Nat} {v : V} (h : Ats H vs ts) (e : vs[i]? = some v) : ∃ t, ts[i]? = some t ∧ At H v t := by
  have hi : i < vs.length := (List.getElem?_eq_some_iff.mp e).1
  have hj : i < ts.length := by rw [← h.len]; exact hi
  exact ⟨ts[i], List.getElem?_eq_getElem hj, h.at' i v _ e (List.getElem?_eq_getElem hj)⟩
theorem Ats.get' {H : Hp} {vs : List V} {ts : List Tm} {i : Nat} {t : Tm} (h : Ats H vs ts) (e : ts[i]? = some t) : ∃ v, vs[i]? = some v ∧ At H v t := by
  have hi : i < ts.length := (List.getElem?_eq_some_iff.mp e).1
  have hj : i < vs.length := by rw [h.len]; exact hi
  exact ⟨vs[i], List.getElem?_eq_getElem hj, h.at' i _ t (List.getElem?_eq_getElem hj) e⟩
theorem Ats.take {H : Hp} {vs : List V} {ts : List Tm} (n : Nat) (h : Ats H vs ts) : Ats H (vs.take n) (ts.take n) :=
  ⟨by rw [List.length_take, List.length_take, h.len], fun i v t e1 e2 => by
    rw [List.getElem?_take] at e1 e2
    split at e1
    · rename_i hlt
      rw [if_pos hlt] at e2
      exact h.at' i v t e1 e2
    · cases e1⟩
theorem Ats.drop {H : Hp} {vs : List V} {ts : List Tm} (n : Nat) (h : Ats H vs ts) : Ats H (vs.drop n) (ts.drop n) :=
  ⟨by rw [List.length_drop, List.length_drop, h.len], fun i v t e1 e2 => by
    rw [List.getElem?_drop] at e1 e2
    exact h.at' _ v t e1 e2⟩
/-- what At leans on is tuples alone -/
def KeepT (H H' : Hp) : Prop := ∀ a xs, H a = some (.tup xs) → H' a = some (.tup xs)
theorem KeepT.refl (H : Hp) : KeepT H H := fun _ _ h => h
theorem KeepT.trans {H H1 H2 : Hp} (a : KeepT H H1) (b : KeepT H1 H2) : KeepT H H2 := fun x o h => b x o (a x o h)
theorem At.keep {H H' : Hp} (k : KeepT H H') {v : V} {t : Tm} (h : At H v t) : At H' v t := by
  induction h with
  | var i => exact .var i
  | app e hl _ ih => exact .app (k _ _ e) hl ih
theorem Ats.keep {H H' : Hp} (k : KeepT H H') {vs : List V} {ts : List Tm} (h : Ats H vs ts) : Ats H' vs ts := ⟨h.len, fun i v t e1 e2 => (h.at' i v t e1 e2).keep k⟩
theorem At.app_ats {H : Hp} {a : Addr} {t : Tm} (h : At H (.ref a) t) : ∃ n vs ts, t = .app n ts ∧ H a = some (.tup (.str n :: vs)) ∧ Ats H vs ts := by
  cases h with
  | app e hl hs => exact ⟨_, _, _, rfl, e, hl, hs⟩
theorem At.of {H : Hp} {a : Addr} {n : Str} {vs : List V} {ts : List Tm} (e : H a = some (.tup (.str n :: vs))) (h : Ats H vs ts) : At H (.ref a) (.app n ts) := .app e h.len h.at'

/-! ### what changes: all but given addresses stays -/
/-- all that was tracked stays, but what stands at one of the addresses -/
def Kp (l : List Addr) (H H' : Hp) : Prop := ∀ b o, b ∉ l → H b = some o → H' b = some o
theorem Kp.refl (l : List Addr) (H : Hp) : Kp l H H := fun _ _ _ h => h
theorem Kp.trans {l : List Addr} {H H1 H2 : Hp} (a : Kp l H H1) (b : Kp l H1 H2) : Kp l H H2 := fun x o hx h => b x o hx (a x o hx h)
theorem Kp.new {l : List Addr} {H : Hp} {p : Addr} {o : HO} (h : H p = none) : Kp l H (upd H p o) := fun b u _ e => by
  rw [upd_ne (ne_of_none e h)]
  exact e
theorem Kp.put {l : List Addr} {H : Hp} {p : Addr} {o : HO} (h : p ∈ l) : Kp l H (upd H p o) := fun b u hb e => by
  rw [upd_ne (fun z : b = p => hb (z ▸ h))]
  exact e
theorem Kp.mono {l l' : List Addr} {H H' : Hp} (a : Kp l H H') (h : ∀ b ∈ l, b ∈ l') : Kp l' H H' := fun b o hb e => a b o (fun z => hb (h b z)) e
/-- an address that H did not know may have been changed besides -/
theorem Kp.less {l : List Addr} {p : Addr} {H H' : Hp} (a : Kp (p :: l) H H') (h : H p = none) : Kp l H H' := fun b o hb e => a b o (fun z => by
  rcases List.mem_cons.mp z with z | z
  · rw [z, h] at e; cases e
  · exact hb z) e
theorem Kp.same {H H' : Hp} (a : Kp [] H H') : Same H H' := fun b o e => a b o (by simp) e
theorem Kp.of_same {l : List Addr} {H H' : Hp} (a : Same H H') : Kp l H H' := fun b o _ e => a b o e
end Lw

set_option maxRecDepth 100000
set_option maxHeartbeats 4000000
/-! the promises of the defs that draw -/
namespace Lw
open PySem L2

/-! ### built-ins by name -/
theorem b_int : bootBuiltins "int" = some (.type "int") := by decide +kernel
theorem b_list : bootBuiltins "list" = some (.type "list") := by decide +kernel
theorem b_tuple : bootBuiltins "tuple" = some (.type "tuple") := by decide +kernel
theorem b_dict : bootBuiltins "dict" = some (.type "dict") := by decide +kernel
theorem b_range : bootBuiltins "range" = some (.type "range") := by decide +kernel
theorem b_set : bootBuiltins "set" = some (.type "set") := by decide +kernel
theorem b_str : bootBuiltins "str" = some (.type "str") := by decide +kernel
theorem b_zip : bootBuiltins "zip" = some (.type "zip") := by decide +kernel
theorem b_enumerate : bootBuiltins "enumerate" = some (.type "enumerate") := by decide +kernel
theorem b_len : bootBuiltins "len" = some (.builtin "len") := by decide +kernel
theorem b_abs : bootBuiltins "abs" = some (.builtin "abs") := by decide +kernel
theorem b_max : bootBuiltins "max" = some (.builtin "max") := by decide +kernel
theorem b_min : bootBuiltins "min" = some (.builtin "min") := by decide +kernel
theorem b_sum : bootBuiltins "sum" = some (.builtin "sum") := by decide +kernel
theorem b_isinstance : bootBuiltins "isinstance" = some (.builtin "isinstance") := by decide +kernel
theorem b_repr : bootBuiltins "repr" = some (.builtin "repr") := by decide +kernel
theorem b_sorted : bootBuiltins "sorted" = some (.builtin "sorted") := by decide +kernel
theorem b_all : bootBuiltins "all" = some (.builtin "all") := by decide +kernel
theorem b_any : bootBuiltins "any" = some (.builtin "any") := by decide +kernel
/-- a tape at t: its script's copy at sc -/
structure TapeAt (H : Hp) (t sc : Addr) (ns : List Int) : Prop where
  is : ∃ pl pd sd : Int, 0 ≤ pl ∧ H t = some (.lst [.ref sc, .int pl, .int pd, .int sd])
  scr : H sc = some (.lst (ns.map V.int))
  ne : sc ≠ t
theorem TapeAt.keep {H H' : Hp} {t sc : Addr} {ns : List Int} (h : TapeAt H t sc ns) {l : List Addr} (k : Kp l H H') (ht : t ∉ l) (hs : sc ∉ l) : TapeAt H' t sc ns := by
  obtain ⟨⟨pl, pd, sd, h0, e⟩, e2, ne⟩ := h
  exact ⟨⟨pl, pd, sd, h0, k _ _ ht e⟩, k _ _ hs e2, ne⟩
theorem TapeAt.nil {H H' : Hp} {t sc : Addr} {ns : List Int} (h : TapeAt H t sc ns) (k : Kp [] H H') : TapeAt H' t sc ns := h.keep k (by simp) (by simp)
theorem TapeAt.t_some {H : Hp} {t sc : Addr} {ns : List Int} (h : TapeAt H t sc ns) {p : Addr} (hp : H p = none) : t ≠ p := by
  obtain ⟨⟨pl, pd, sd, h0, e⟩, _, _⟩ := h
  exact ne_of_none e hp
theorem TapeAt.s_some {H : Hp} {t sc : Addr} {ns : List Int} (h : TapeAt H t sc ns) {p : Addr} (hp : H p = none) : sc ≠ p := ne_of_none h.scr hp
theorem TapeAt.keepT {H H' : Hp} {t sc : Addr} {ns : List Int} (h : TapeAt H t sc ns) (k : Kp [t] H H') : KeepT H H' := fun a xs e => by
  obtain ⟨⟨pl, pd, sd, h0, e2⟩, _, _⟩ := h
  refine k a _ (fun z => ?_) e
  rcases List.mem_cons.mp z with z | z
  · rw [z, e2] at e; cases e
  · cases z
theorem Kp.keepT {l : List Addr} {H H' : Hp} (k : Kp l H H') (h : ∀ a ∈ l, ∀ xs, H a ≠ some (.tup xs)) : KeepT H H' := fun a xs e => k a _ (fun z => h a z xs e) e

def spTape (K : PySem.W.Frag) : Sp := fun vs H Q _ => ∃ (a : Addr) (ns : List Int), vs = [.ref a] ∧ SqL K H a (ns.map V.int) ∧
  ∀ (H' : Hp) (t sc : Addr), Kp [] H H' → H t = none → H sc = none → TapeAt H' t sc ns → Q (.ref t) H'
def spDraw : Sp := fun vs H Q _ => ∃ (t sc : Addr) (ns : List Int) (many : Int), vs = [.ref t, .int many] ∧ TapeAt H t sc ns ∧ 0 ≤ many ∧ many < 1000000000 ∧
  ∀ (H' : Hp) (n : Int), Kp [t] H H' → TapeAt H' t sc ns → 0 ≤ n → n < max many 1 → Q (.int n) H'

/-! ### names -/
def smallC (c : Nat) : Prop := 97 ≤ c ∧ c ≤ 122
def signC (c : Nat) : Prop := (97 ≤ c ∧ c ≤ 122) ∨ (65 ≤ c ∧ c ≤ 90) ∨ (48 ≤ c ∧ c ≤ 57)
instance : DecidablePred smallC := fun c => by unfold smallC; infer_instance
instance : DecidablePred signC := fun c => by unfold signC; infer_instance
structure NameOk (z : Str) : Prop where
  pos : 0 < z.cps.toList.length
  le : z.cps.toList.length ≤ 16
  first : ∀ c, z.cps.toList[0]? = some c → smallC c
  all : ∀ c ∈ z.cps.toList, signC c
  short : z.cps.toList.length ≤ 3 ∨ z.cps.toList.length = 16
/-- a stem: empty, or the beginning of a name -/
structure StemOk (z : Str) : Prop where
  le : z.cps.toList.length ≤ 13
  first : ∀ c, z.cps.toList[0]? = some c → smallC c
  all : ∀ c ∈ z.cps.toList, signC c
  len : z.cps.toList.length = 0 ∨ z.cps.toList.length = 13
def spWord : Sp := fun vs H Q _ => ∃ (t sc : Addr) (ns : List Int) (stem : Str), vs = [.ref t, .str stem] ∧ TapeAt H t sc ns ∧ StemOk stem ∧
  ∀ (H' : Hp) (z : Str), Kp [t] H H' → TapeAt H' t sc ns → NameOk z → Q (.str z) H'

/-! ### symbols -/
structure SymsAt (H : Hp) (a : Addr) (zs : List (Str × Int)) : Prop where
  is : ∃ rs : List Addr, H a = some (.lst (rs.map V.ref)) ∧ rs.length = zs.length ∧ ∀ (i : Nat) r z, rs[i]? = some r → zs[i]? = some z → H r = some (.tup [.str z.1, .int z.2])
  ok : ∀ z ∈ zs, NameOk z.1 ∧ 0 ≤ z.2 ∧ z.2 ≤ 3
def spSymbols : Sp := fun vs H Q _ => ∃ (t sc : Addr) (ns : List Int) (many : Int), vs = [.ref t, .int many] ∧ TapeAt H t sc ns ∧ 1 ≤ many ∧ many ≤ 1000 ∧
  ∀ (H' : Hp) (p : Addr) (zs : List (Str × Int)), Kp [t] H H' → TapeAt H' t sc ns → H p = none → SymsAt H' p zs → (zs.length : Int) = many + 1 → Q (.ref p) H'
end Lw

set_option maxRecDepth 100000
set_option maxHeartbeats 4000000
/-! the promise of a def where it is known that no container's repr is under way -/
namespace Lw
open PySem PySem.Spec PyProof.Rows L2
/-- room, and no repr of a container under way -/
structure RoomG (k : Nat) (A : Around) : Prop where
  room : Room k A
  g : A.guards = some []
theorem RoomG.mono {j k : Nat} {A : Around} (r : RoomG k A) (h : j ≤ k) : RoomG j A := ⟨r.room.mono h, r.g⟩
theorem RoomG.deeper {k : Nat} {A : Around} (r : RoomG (k + 1) A) (env : Env) : RoomG k (A.deeper env) := ⟨r.room.deeper env, r.g⟩
structure FnG (P : Program) (w : World) (K : PySem.W.Frag) (mg : Str → Option Value) (base : Heap) (k : Nat) (f : Addr) (fd : FuncData) (ps : List Str) (sp : Sp) : Prop where
  len : ∀ vs H Q E, sp vs H Q E → vs.length = ps.length
  run : ∀ (A : Around) (outer : List Env) (s : Shared) (H : Hp) (args : Args) (us : List Value) (vs : List V) (Q : VK) (E : XK), RoomG k A → Env0 P w K mg base A outer s H → BindsTo s fd args (ps.zip us) → Vals vs us → sp vs H Q E →
    codeAny (model P w) A (.call (.ref f) args) (CR CX0 outer P w H s Q E) s
section
variable {P : Program} {w : World} {K : PySem.W.Frag} {mg : Str → Option Value} {base : Heap}
theorem FnG.mono {j k : Nat} {f : Addr} {fd : FuncData} {ps : List Str} {sp : Sp} (F : FnG P w K mg base j f fd ps sp) (h : j ≤ k) : FnG P w K mg base k f fd ps sp :=
  ⟨F.len, fun A outer s H args us vs Q E hr => F.run A outer s H args us vs Q E (hr.mono h)⟩
theorem FnG.imp {k : Nat} {f : Addr} {fd : FuncData} {ps : List Str} {sp sp' : Sp} (F : FnG P w K mg base k f fd ps sp) (h : ∀ vs H Q E, sp' vs H Q E → sp vs H Q E) : FnG P w K mg base k f fd ps sp' :=
  ⟨fun vs H Q E q => F.len vs H Q E (h _ _ _ _ q), fun A outer s H args us vs Q E hr he hb hv hs => F.run A outer s H args us vs Q E hr he hb hv (h _ _ _ _ hs)⟩
/-- a def by its body -/
theorem Fun.okG {x qual : Str} {st : Stmt} {f : Addr} {fd : FuncData} {N ps : List Str} {k : Nat} {sp : Sp} (F : Fun K x qual st f fd) (S : FnScope N ps (defScope st)) (len : ∀ vs H Q E, sp vs H Q E → vs.length = ps.length)
    (body : ∀ (cdv : Value) (A : Around) (outer : List Env) (s : Shared) (H : Hp) (vs : List V) (Q : VK) (E : XK), RoomG k (A.deeper (envOfC qual (defScope st) s.heap.objs.size f cdv)) → sp vs H Q E →
      ∃ t, PSs (cxOf CX0 P w K mg base N qual (defScope st) f cdv A outer s H E).nox (defBody st) t ∧ t { nx := fun _ H' => Q .non H', rt := Q } (start N vs) H) : FnG P w K mg base (k + 1) f fd ps sp := by
  obtain ⟨oc, od, kV, doc, pm, an, cdv, ct, osl, rfl, lk, hcd⟩ := F.ex
  refine ⟨len, fun A outer s H args us vs Q E hr e0 hb rv hsp => ?_⟩
  have inK : K.In s.heap := e0.mod.kin.keeps fun b o e => (e0.bs b o e).1
  have noL : s.heap.NoLimit := e0.mod.nolimit.keeps fun b o e => (e0.bs b o e).1
  have kinds : ∀ y ∈ ps.zip us, (defScope st).names.lookup y.1 = some .local ∨ ((defScope st).names.lookup y.1 = some .cell ∧ ((cellsFrom (s.heap.objs.size + 1) (defScope st).names []).lookup y.1).isSome = true) := by
    rintro ⟨n, v⟩ hy
    rcases S.par n (List.of_mem_zip hy).1 with c | c
    · exact .inl c
    · exact .inr ⟨c, PySem.W.cellsFrom_some _ _ _ (.inl c)⟩
  refine codeAny_call_function hr.room.depth (inK _ _ lk) rfl S.co S.gen rfl (PySem.W.codeRec_of inK hcd) (hb _ _ _ _ (wpAny_newFunctionEnv_cells S.kind kinds fun env he s1 x => ?_))
  subst he
  refine ⟨noL.keeps x.toInCall.keep, codeAny_func ?_⟩
  obtain ⟨t, ht, hq⟩ := body cdv A outer s H vs Q E (hr.deeper _) hsp
  have I := inv_start (CX := CX0) (E := E) S hr.room.hd e0 (len _ _ _ _ hsp) rv x
  refine wpAny_mono (ht.nox.run [] s1 (start N vs) H _ I hq) (fun fl s2 done => ?_) fun e s2 out => out
  cases fl with
  | ret u =>
    obtain ⟨v, σ2, H2, J, rv2, q⟩ := done
    exact ⟨v, H2, J.os, J.bare, J.base, J.hok, rv2, q⟩
  | next =>
    obtain ⟨σ2, H2, J, q⟩ := done
    exact ⟨V.non, H2, J.os, J.bare, J.base, J.hok, rfl, q⟩
  | brk =>
    obtain ⟨_, _, _, z⟩ := done
    exact z.elim
  | cont =>
    obtain ⟨_, _, _, z⟩ := done
    exact z.elim
end
section
variable {X : Cx} {k j : Nat} {f : Addr} {fd : FuncData} {ps : List Str} {sp : Sp} {x : Str} {p pos : Pos} {e : Expr} {es : List Expr} {t : TA}
theorem pe_callG (F : FnG X.prog X.w X.K X.mg X.base k f fd ps sp) (hr : RoomG k X.A) (hg : Gl X x) (hm : X.mg x = some (.ref f)) (hk : PySem.W.keepIn X.K (.ref f) = true) (hb : Binds X.K fd ps [])
    (ha : PA X (e :: es) t) (hdb : (x == ("__debug__" : Str)) = false := by decide) (he : starEach (e :: es) X.env = (false, eval e X.env) :: starEach es X.env := by rfl) (hpl : (backTo pos (starEach es X.env)).any (·.1) = false := by rfl) :
    PE X (.Call (.Name x p) (e :: es) [] pos) (tCall sp [] E0 t) := by
  refine ⟨fun pins s σ H Q I h => wpAny_Call_Name_kw (ld_glob I hg hm (PySem.W.callWith_K (h₀ := X.base) I.ok.mod.kin hk (thn (ha.run pos pins s σ H _ I h) fun us s1 ⟨vs, H1, I1, r, q⟩ => ⟨I1.kIn, ?_⟩) he hpl) hdb)⟩
  have q : sp (vs ++ []) H1 Q E0 := q
  rw [List.append_nil] at q
  have hl : (us ++ []).length = ps.length := by rw [List.append_nil, ← r.length]; exact F.len _ _ _ _ q
  have b := hb s1 us I1.kIn hl
  rw [List.append_nil] at b
  refine wpAny_call (codeAny_mono (F.run X.A X.stack s1 H1 ⟨us, []⟩ us vs Q E0 hr I1.env0 b r q) fun r s2 hq => ?_)
  cases r with
  | error e => exact hq.elim
  | ok fl =>
    cases fl with
    | ret u => exact I1.after hq
    | next => exact False.elim hq
    | brk => exact False.elim hq
    | cont => exact False.elim hq
end
end Lw
namespace Lw
open PySem PySem.Spec PyProof.Rows L2
/-- the law's def at the heap behind the top -/
theorem law_callG {P : Program} {w : World} {K : PySem.W.Frag} {mg mb : Str → Option Value} {k : Nat} {fa a : Addr} {fd : FuncData} {x : Str} {sp : Sp} {s1 : Shared} {vs : List Value} {ns : List Int}
    (KX : K.In s1.heap) (hns : s1.heap.Ns PySem.mainGlobals mg) (hb : s1.heap.Ns builtinsNs mb) (hbb : ∀ x : Str, x ≠ "__name__" → mb x = bootBuiltins x) (hlim : s1.heap.NoLimit) (hg : s1.gens = #[])
    (ha : s1.heap.get? a = some { cls := .type "list", data := .seq vs.toArray }) (hi : IntsAre vs ns) (hl : ns.length ≤ sizeLine) (hr : RoomG k callerA)
    (F : ∀ base : Heap, K.In base → base.Ns PySem.mainGlobals mg → FnG P w K mg base k fa fd [x] sp) (hbind : ∀ (s : Shared) (u : Value), BindsTo s fd ⟨[u], []⟩ [(x, u)])
    (hsp : ∀ H : Hp, Only H → SqL K H a (ns.map V.int) → sp [.ref a] H (fun v _ => v = .bl true) fun _ _ _ => False) :
    codeAny (model P w) callerA (.call (.ref fa) ⟨[.ref a], []⟩) (fun r s2 => r = .ok (.ret (.bool true)) ∧ OldK s1.heap s2.heap ∧ s2.os = s1.os ∧ AllBare s2.gens) s1 := by
  have rv := vals_ints hi
  have lv := hi.length
  -- from any abstract heap that tracks the script at most
  have go : ∀ H : Hp, Only H → SqL K H a (ns.map V.int) → HOk P w H s1.heap → (∀ b u, H b = some u → b = a ∧ K.lookup a = none) →
      codeAny (model P w) callerA (.call (.ref fa) ⟨[.ref a], []⟩) (fun r s2 => r = .ok (.ret (.bool true)) ∧ OldK s1.heap s2.heap ∧ s2.os = s1.os ∧ AllBare s2.gens) s1 := by
    intro H hO hS hok hA
    have off : ∀ {b : Addr} {o : Obj}, s1.heap.get? b = some o → (b = a → K.lookup a = none → False) → H b = none := fun {b o} _ n => by
      cases z : H b with
      | none => rfl
      | some u => exact (n (hA b u z).1 (hA b u z).2).elim
    have dicts : ∀ {b : Addr} {o : Obj} {es : Array DictEntry} {ep : Nat}, s1.heap.get? b = some o → o.data = .dict es ep → H b = none := fun {b o es ep} e d => off e fun z _ => by
      rw [z, ha] at e
      cases e
      cases d
    have names : ∀ {b : Addr} {m : Str → Option Value}, s1.heap.Ns b m → (hidT s1.heap H).Ns b m := fun {b m} ⟨o, es, ep, e, d, r⟩ => ⟨o, es, ep, hidT_get e (dicts e d), d, r⟩
    have inB : K.In (hidT s1.heap H) := fun b o e => hidT_get (KX b o e) (off (KX b o e) fun z n => by rw [z, n] at e; cases e)
    have hM : Mod K mg (hidT s1.heap H) := ⟨inB, names hns, ⟨mb, names hb, hbb⟩, let ⟨mc, h1, h2⟩ := hlim; ⟨mc, names h1, h2⟩⟩
    have e0 : Env0 P w K mg (hidT s1.heap H) callerA [] s1 H := ⟨rfl, hM, fun b o e => of_hidT e, Nat.le_of_eq (hidT_size _ _), trivial, (fun b hb => nomatch (show b ∈ ([] : List Addr) from hb)), hok, .of_eq hg⟩
    refine codeAny_mono ((F _ inB (names hns)).run callerA [] s1 H ⟨[.ref a], []⟩ [.ref a] [.ref a] _ _ hr e0 (hbind s1 (.ref a)) (.cons rfl .nil) (hsp H hO hS)) fun r s2 h => ?_
    cases r with
    | error e => exact False.elim h
    | ok fl =>
      cases fl with
      | next => exact False.elim h
      | brk => exact False.elim h
      | cont => exact False.elim h
      | ret u =>
        obtain ⟨v, H2, os, bare, un, hok2, r2, q⟩ := h
        have q2 : v = .bl true := q
        subst q2
        obtain rfl : u = Value.bool true := r2
        refine ⟨rfl, OldK.of_keep fun b o e => ?_, os, bare⟩
        rcases hO b with z | ⟨ob, xs, z⟩
        · exact un.keep b o e z (fun m => nomatch (show b ∈ ([] : List Addr) from m)) (fun m => nomatch m)
        · have z2 := un.frzs b ob _ z
          obtain ⟨e1, _⟩ := hok b _ z
          obtain ⟨e2, _⟩ := hok2 b _ z2
          rw [e] at e1
          cases e1
          exact e2
  by_cases hk : K.lookup a = none
  · refine go (fun b => if b = a then some (.frz { cls := .type "list", data := .seq vs.toArray } (.lst (ns.map V.int))) else none) (fun b => ?_) (.inl (.inr ⟨_, if_pos rfl⟩)) (fun b u z => ?_) (fun b u z => ?_)
    · by_cases hb : b = a
      · exact .inr ⟨_, _, if_pos hb⟩
      · exact .inl (if_neg hb)
    · by_cases hb : b = a
      · subst hb
        have z2 := (if_pos rfl).symm.trans z
        cases z2
        exact ⟨ha, by rw [List.length_map]; exact hl, vs, _, rv, ha⟩
      · have z2 := (if_neg hb).symm.trans z
        cases z2
    · by_cases hb : b = a
      · exact ⟨hb, hk⟩
      · have z2 := (if_neg hb).symm.trans z
        cases z2
  · obtain ⟨o, ho⟩ : ∃ o, K.lookup a = some o := by
      cases z : K.lookup a with
      | none => exact absurd z hk
      | some o => exact ⟨o, rfl⟩
    have e := KX a o ho
    rw [ha] at e
    cases e
    exact go (fun _ => none) (fun _ => .inl rfl) (.inr ⟨_, vs.toArray, _, ho, rfl, rfl, rfl, by rw [List.size_toArray, lv]; exact hl, by simpa using rv⟩) (fun b u z => nomatch (show (none : Option HO) = some u from z)) (fun b u z => nomatch (show (none : Option HO) = some u from z))
/-- the goal that the head leaves -/
theorem walk_ofG {l : PySem.W.OpenLaw} {n k : Nat} {q : Program} {loose : List Str} {XP : (Str → Option Value) → Heap → Prop} {YP : World → Heap → Prop} {d : DefRec} {K : Params → PySem.W.Frag} {sp : World → Sp} {x : Str}
    (hn : l.most = some n) (hn2 : n ≤ sizeLine) (hdf : d.params.defaults = []) (hr : RoomG k callerA) (hY : ∀ (w : World) (h : Heap), YP w h → (K w.params).In h)
    (F : ∀ (w : World) (mg : Str → Option Value) (fa : Addr) (h : Heap), (K w.params).In h → h.Ns PySem.mainGlobals mg → mg d.name = some (.ref fa) →
      ∃ fd : FuncData, (∀ (s : Shared) (u : Value), BindsTo s fd ⟨[u], []⟩ [(x, u)]) ∧ ∀ base : Heap, (K w.params).In base → base.Ns PySem.mainGlobals mg → FnG l.prog w (K w.params) mg base k fa fd [x] (sp w))
    (hsp : ∀ (w : World) (H : Hp) (a : Addr) (ns : List Int), ns.length ≤ n → Only H → SqL (K w.params) H a (ns.map V.int) → sp w [.ref a] H (fun v _ => v = .bl true) fun _ _ _ => False) :
    PySem.W.WalkO q loose XP YP l.row.toRowW d [] (fun f vs => PySem.call f vs) := by
  refine Att.attach_call hn hdf fun w s0 s1 mg mb fa o pm cd doc a vs ns G Y ho hd hcd hmg hobj hints hlen hg => ?_
  obtain ⟨fd, hb, hF⟩ := F w mg fa _ (hY w _ Y) G.T.g hmg
  exact law_callG (hY w _ Y) G.T.g G.T.b G.T.builtins G.T.nolimit hg hobj hints (Nat.le_trans hlen hn2) hr hF hb fun H hO hS => hsp w H a ns hlen hO hS
end Lw

set_option maxRecDepth 100000
set_option maxHeartbeats 4000000
/-! readings, a step a lemma -/
namespace Lw
open PySem L2
section
variable {σ : St} {H : Hp} {Q : VK} {D : Ends} {K : PySem.W.Frag} {ta tb te tc : TE} {t u : TT} {v : V} {i j : Int} {r : R2} {a : Addr} {xs : List V}
theorem d_var {i : Nat} {v : V} (h : σ[i]? = some (some v)) (q : Q v H) : tVar i σ H Q := ⟨v, h, q⟩
theorem d_c (q : Q v H) : tC v σ H Q := q
theorem d_op (q : ta σ H fun x H1 => tb σ H1 fun y H2 => r x y H2 Q) : tOp r ta tb σ H Q := q
theorem d_un {r : V → Hp → VK → Prop} (q : ta σ H fun x H1 => r x H1 Q) : tUn r ta σ H Q := q
theorem d_I0 {g : Int → Int → V} (q : Q (g i j) H) : rI0 g (.int i) (.int j) H Q := ⟨i, j, rfl, rfl, q⟩
theorem d_I {C : Int → Int → Prop} {g : Int → Int → V} (c : C i j) (q : Q (g i j) H) : rI C g (.int i) (.int j) H Q := ⟨i, j, rfl, rfl, c, q⟩
theorem d_U {g : Int → V} (q : Q (g i) H) : rU g (.int i) H Q := ⟨i, rfl, q⟩
theorem d_eq {x y : V} (c : scal x y = true) (q : Q (.bl (decide (x = y))) H) : rEq x y H Q := ⟨c, q⟩
theorem d_ne {x y : V} (c : scal x y = true) (q : Q (.bl (!decide (x = y))) H) : rNe x y H Q := ⟨c, q⟩
theorem d_nil {Q : List V → Hp → Prop} (q : Q [] H) : tNil σ H Q := q
theorem d_cons {tr : TA} {Q : List V → Hp → Prop} (q : te σ H fun x H1 => tr σ H1 fun xs H2 => Q (x :: xs) H2) : tCons te tr σ H Q := q
theorem d_tup {t : TA} (q : t σ H fun xs H1 => xs.length ≤ sizeLine ∧ ∀ p, H1 p = none → Q (.ref p) (upd H1 p (.tup xs))) : tTup t σ H Q := q
theorem d_lst {t : TA} (q : t σ H fun xs H1 => xs.length ≤ sizeLine ∧ ∀ p, H1 p = none → Q (.ref p) (upd H1 p (.lst xs))) : tLst t σ H Q := q
theorem d_cb {t : TA} {r : List V → Hp → VK → Prop} (q : t σ H fun vs H1 => r vs H1 Q) : tCB r t σ H Q := q
theorem d_ckw {t tk : TA} {r : List V → List V → Hp → VK → Prop} (q : t σ H fun vs H1 => tk σ H1 fun zs H2 => r vs zs H2 Q) : tCKw r t tk σ H Q := q
theorem d_call {sp : Sp} {dvs : List V} {E : XK} {t : TA} (q : t σ H fun vs H1 => sp (vs ++ dvs) H1 Q E) : tCall sp dvs E t σ H Q := q
theorem d_slice {r : V → Option Int → Option Int → Hp → VK → Prop} {tl th : TO} (q : te σ H fun x H1 => tl σ H1 fun lo H2 => th σ H2 fun hi H3 => r x lo hi H3 Q) : tSl r te tl th σ H Q := q
theorem d_part {Q : Option Int → Hp → Prop} (q : te σ H fun x H1 => ∃ i, x = .int i ∧ Q (some i) H1) : tPart te σ H Q := q
theorem d_nopart {Q : Option Int → Hp → Prop} (q : Q none H) : tNoPart σ H Q := q
theorem d_bm0 {T : String} {r : V → List V → Hp → VK → Prop} (q : te σ H fun x H1 => tyV K T x H1 ∧ r x [] H1 Q) : tBM0 K T r te σ H Q := q
theorem d_bm {T : String} {r : V → List V → Hp → VK → Prop} {t : TA} (q : te σ H fun x H1 => tyV K T x H1 ∧ t σ H1 fun xs H2 => r x xs H2 Q) : tBM K T r te t σ H Q := q
theorem d_next (q : D.nx σ H) : tNext D σ H := q
theorem d_seq {t u : TS} (q : t { D with nx := u D } σ H) : tSeq t u D σ H := q
theorem d_drop (q : te σ H fun _ H1 => D.nx σ H1) : tDrop te D σ H := q
theorem d_ret (q : te σ H D.rt) : tRet te D σ H := q
theorem d_retN (q : D.rt .non H) : tRetN D σ H := q
theorem d_asg {g : TG} (q : te σ H fun x H1 => g x σ H1 D.nx) : tAsg te g D σ H := q
theorem d_name {n : Nat} {x : V} {Q : St → Hp → Prop} (q : Q (σ.set n (some x)) H) : gName n x σ H Q := q
theorem d_ifs {c : TT} {t u : TS} (q : c σ H fun b H1 => if b = true then t D σ H1 else u D σ H1) : tIfS c t u D σ H := q
theorem d_ifx {c : TT} (q : c σ H fun b H1 => if b = true then ta σ H1 Q else tb σ H1 Q) : tIf c ta tb σ H Q := q
theorem d_test {Q : Bool → Hp → Prop} (q : te σ H fun x H1 => ∃ k, x = .bl k ∧ Q k H1) : tTest te σ H Q := q
theorem d_tB {Q : Bool → Hp → Prop} (q : te σ H fun x H1 => ∃ k, x = .bl k ∧ Q k H1) : tB te σ H Q := q
theorem d_tnot {Q : Bool → Hp → Prop} (q : t σ H fun c H1 => Q (!c) H1) : tNot t σ H Q := q
theorem d_tand {Q : Bool → Hp → Prop} (q : t σ H fun c H1 => if c = true then u σ H1 Q else Q false H1) : tAnd t u σ H Q := q
theorem d_tor {Q : Bool → Hp → Prop} (q : t σ H fun c H1 => if c = true then Q true H1 else u σ H1 Q) : tOr t u σ H Q := q
theorem d_andV (q : ta σ H fun x H1 => ∃ c, x = .bl c ∧ if c = true then tb σ H1 Q else Q (.bl false) H1) : tAndV ta tb σ H Q := q
theorem d_orV (q : ta σ H fun x H1 => ∃ c, x = .bl c ∧ if c = true then Q (.bl true) H1 else tb σ H1 Q) : tOrV ta tb σ H Q := q
theorem d_notV (q : ta σ H fun x H1 => ∃ c, x = .bl c ∧ Q (.bl (!c)) H1) : tNotV ta σ H Q := q
theorem d_ixL {p : Addr} (h : SqL K H p xs) (e : atI xs i = some v) (q : Q v H) : rIxL K (.ref p) (.int i) H Q := ⟨p, xs, i, v, rfl, rfl, h, e, q⟩
theorem d_ixT {p : Addr} (h : SqT K H p xs) (e : atI xs i = some v) (q : Q v H) : rIxT K (.ref p) (.int i) H Q := ⟨p, xs, i, v, rfl, rfl, h, e, q⟩
end
theorem ite_bl {A B : Prop} {b : Bool} (h1 : b = true → A) (h2 : b = false → B) : if b = true then A else B := by
  cases b with
  | true => rw [if_pos rfl]; exact h1 rfl
  | false => rw [if_neg Bool.false_ne_true]; exact h2 rfl
theorem ite_dc {A B : Prop} {p : Prop} [Decidable p] (h1 : p → A) (h2 : ¬ p → B) : if decide p = true then A else B :=
  ite_bl (fun e => h1 (of_decide_eq_true e)) (fun e => h2 (of_decide_eq_false e))
theorem ite_ndc {A B : Prop} {p : Prop} [Decidable p] (h1 : ¬ p → A) (h2 : p → B) : if (!decide p) = true then A else B :=
  ite_bl (fun e => h1 (by simpa using e)) (fun e => h2 (by simpa using e))
theorem sqL {K : PySem.W.Frag} {H : Hp} {a : Addr} {xs : List V} (h : H a = some (.lst xs)) : SqL K H a xs := .inl (.inl h)
theorem sqT {K : PySem.W.Frag} {H : Hp} {a : Addr} {xs : List V} (h : H a = some (.tup xs)) : SqT K H a xs := .inl (.inl h)
theorem atI_of {α : Type} {xs : List α} {k : Int} {v : α} (h0 : 0 ≤ k) (h : xs[k.toNat]? = some v) : atI xs k = some v := by
  have e : k = ((k.toNat : Nat) : Int) := by omega
  rw [e]
  exact atI_nat h
theorem smallN {n : Nat} (h : n ≤ 1000000) : n ≤ sizeLine := le_line h
theorem smallL {n : Nat} (h : n < 1000000) : n < sizeLine := by rw [sizeLine_eq]; omega
end Lw
namespace Lw
open PySem L2
section
variable {H : Hp} {Q : VK} {K : PySem.W.Frag} {i : Int} {p : Addr} {xs : List V}
theorem d_ixLc {v : V} (h : H p = some (.lst xs)) (e : atI xs i = some v) (q : Q v H) : rIxL K (.ref p) (.int i) H Q := ⟨p, xs, i, v, rfl, rfl, sqL h, e, q⟩
theorem d_ixTc {v : V} (h : H p = some (.tup xs)) (e : atI xs i = some v) (q : Q v H) : rIxT K (.ref p) (.int i) H Q := ⟨p, xs, i, v, rfl, rfl, sqT h, e, q⟩
end
end Lw
namespace Lw
open PySem L2
section
variable {H : Hp} {Q : Hp → Prop} {i : Int} {p : Addr} {xs : List V} {j : Nat} {v : V}
theorem d_setL (h : H p = some (.lst xs)) (e : ixN xs.length i = some j) (q : Q (upd H p (.lst (xs.set j v)))) : rSetL (.ref p) (.int i) v H Q := ⟨p, xs, i, j, rfl, rfl, h, e, q⟩
end
end Lw
namespace Lw
open PySem L2
theorem d_sub {to ti : TE} {t : TSet} {v : V} {σ : St} {H : Hp} {Q : St → Hp → Prop} (q : to σ H fun o H1 => ti σ H1 fun i H2 => t o i v H2 fun H3 => Q σ H3) : gSub to ti t v σ H Q := q
end Lw
namespace Lw
open PySem PySem.Spec L2
section
variable {P : Program} {w : World} {K : PySem.W.Frag} {mg : Str → Option Value} {base : Heap}
/-- a def of the module as it stands behind the top, under its own name, no defaults -/
structure Df (K : PySem.W.Frag) (mg : Str → Option Value) (x : Str) (st : Stmt) (ps : List Str) : Prop where
  ex : ∃ (f : Addr) (fd : FuncData), Fun K x x st f fd ∧ mg x = some (.ref f) ∧ Binds K fd ps []
/-- a def that may be called under its name, and keeps the promise -/
structure Cl (P : Program) (w : World) (K : PySem.W.Frag) (mg : Str → Option Value) (base : Heap) (k : Nat) (x : Str) (ps : List Str) (sp : Sp) : Prop where
  ex : ∃ (f : Addr) (fd : FuncData), FnG P w K mg base k f fd ps sp ∧ mg x = some (.ref f) ∧ PySem.W.keepIn K (.ref f) = true ∧ Binds K fd ps []
theorem Cl.mono {j k : Nat} {x : Str} {ps : List Str} {sp : Sp} (c : Cl P w K mg base j x ps sp) (h : j ≤ k) : Cl P w K mg base k x ps sp := by
  obtain ⟨f, fd, F, m, kp, b⟩ := c.ex
  exact ⟨f, fd, F.mono h, m, kp, b⟩
theorem Cl.imp {k : Nat} {x : Str} {ps : List Str} {sp sp' : Sp} (c : Cl P w K mg base k x ps sp) (h : ∀ vs H Q E, sp' vs H Q E → sp vs H Q E) : Cl P w K mg base k x ps sp' := by
  obtain ⟨f, fd, F, m, kp, b⟩ := c.ex
  exact ⟨f, fd, F.imp h, m, kp, b⟩
theorem Df.ok {x : Str} {st : Stmt} {N ps : List Str} {k : Nat} {sp : Sp} (D : Df K mg x st ps) (S : FnScope N ps (defScope st)) (len : ∀ vs H Q E, sp vs H Q E → vs.length = ps.length)
    (body : ∀ (f : Addr) (cdv : Value) (A : Around) (outer : List Env) (s : Shared) (H : Hp) (vs : List V) (Q : VK) (E : XK), RoomG k (A.deeper (PyProof.Rows.envOfC x (defScope st) s.heap.objs.size f cdv)) → sp vs H Q E →
      ∃ t, PSs (cxOf CX0 P w K mg base N x (defScope st) f cdv A outer s H E).nox (defBody st) t ∧ t { nx := fun _ H' => Q .non H', rt := Q } (start N vs) H) : Cl P w K mg base (k + 1) x ps sp := by
  obtain ⟨f, fd, F, m, b⟩ := D.ex
  exact ⟨f, fd, Fun.okG F S len (fun cdv A outer s H vs Q E hr h => body f cdv A outer s H vs Q E hr h), m, F.kp, b⟩
/-- a promise that nothing can ask for -/
theorem Df.none {x : Str} {st : Stmt} {N ps : List Str} {k : Nat} {sp : Sp} (D : Df K mg x st ps) (no : ∀ vs H Q E, ¬ sp vs H Q E) : Cl P w K mg base k x ps sp := by
  obtain ⟨f, fd, F, m, b⟩ := D.ex
  exact ⟨f, fd, ⟨fun vs H Q E h => absurd h (no vs H Q E), fun A outer s H args us vs Q E _ _ _ _ h => absurd h (no vs H Q E)⟩, m, F.kp, b⟩
end
section
variable {X : Cx} {k j : Nat} {x : Str} {ps : List Str} {sp : Sp} {p pos : Pos} {e : Expr} {es : List Expr} {t : TA}
theorem pe_cl (c : Cl X.prog X.w X.K X.mg X.base k x ps sp) (hr : RoomG j X.A) (hk : k ≤ j) (hg : Gl X x) (ha : PA X (e :: es) t)
    (hdb : (x == ("__debug__" : Str)) = false := by decide) (he : starEach (e :: es) X.env = (false, eval e X.env) :: starEach es X.env := by rfl) (hpl : (backTo pos (starEach es X.env)).any (·.1) = false := by rfl) :
    PE X (.Call (.Name x p) (e :: es) [] pos) (tCall sp [] E0 t) := by
  obtain ⟨f, fd, F, hm, kp, b⟩ := c.ex
  exact pe_callG F (hr.mono hk) hg hm kp b ha hdb he hpl
end
/-! ### texts -/
theorem atI_all {α : Type} {P : α → Prop} {l : List α} (h : ∀ c ∈ l, P c) {k : Int} (h0 : 0 ≤ k) (h1 : k < l.length) : ∃ c, atI l k = some c ∧ P c := by
  have hk : k.toNat < l.length := by omega
  exact ⟨l[k.toNat], atI_of h0 (List.getElem?_eq_getElem hk), h _ (List.getElem_mem hk)⟩
theorem str_app (a b : Str) : (a ++ b).cps.toList = a.cps.toList ++ b.cps.toList := by
  show (a.cps ++ b.cps).toList = _
  rw [Array.toList_append]
theorem str_len (a : Str) : a.length = a.cps.toList.length := by
  show a.cps.size = _
  rw [Array.length_toList]
theorem cut_take (z : Str) (k : Int) (h : 0 ≤ k) : (cutS z none (some k)).cps.toList = z.cps.toList.take k.toNat := by
  obtain ⟨n, rfl⟩ := Int.eq_ofNat_of_zero_le h
  unfold cutS
  rw [HT.sIx_none, HT.sIx_nat, str_len]
  show ((z.cps.toList.drop 0).take (min n z.cps.toList.length - 0)).toArray.toList = _
  rw [List.drop_zero, Nat.sub_zero, List.toList_toArray, Int.toNat_natCast, ← List.take_eq_take_min]
theorem name_take {z : Str} {l : List Nat} {n : Nat} (e : z.cps.toList = l.take n) (hn : 0 < n) (hn2 : n ≤ 16) (hl : 0 < l.length) (ho : (l.take n).length ≤ 3 ∨ (l.take n).length = 16) (h1 : ∀ c, l[0]? = some c → smallC c) (h2 : ∀ c ∈ l, signC c) : NameOk z := by
  refine ⟨?_, ?_, fun c hc => ?_, fun c hc => ?_, by rw [e]; exact ho⟩
  · rw [e, List.length_take]; omega
  · rw [e, List.length_take]; omega
  · rw [e, List.getElem?_take, if_pos hn] at hc
    exact h1 c hc
  · rw [e] at hc
    exact h2 c (List.mem_of_mem_take hc)
end Lw
namespace Lw
open PySem PySem.Spec L2
section
variable {K : PySem.W.Frag} {H : Hp} {l : Addr} {xs : List V} {y : V} {Q : VK} {R : Prop}
theorem d_tyL (h : H l = some (.lst xs)) (q : R) : tyV K "list" (.ref l) H ∧ R := ⟨.inl ⟨rfl, _, sqL h⟩, q⟩
theorem d_app (h : H l = some (.lst xs)) (hl : xs.length < 1000000) (q : Q .non (upd H l (.lst (xs ++ [y])))) : rAppend (.ref l) [y] H Q := ⟨l, xs, y, rfl, rfl, h, smallL hl, q⟩
end
/-! ### symbols -/
theorem SymsAt.keep {H H' : Hp} {p : Addr} {zs : List (Str × Int)} (h : SymsAt H p zs) {l : List Addr} (k : Kp l H H') (hp : p ∉ l) (hl : ∀ a ∈ l, ∀ xs, H a ≠ some (.tup xs)) : SymsAt H' p zs := by
  obtain ⟨rs, e, el, hr⟩ := h.is
  exact ⟨⟨rs, k _ _ hp e, el, fun i r z a b => k.keepT hl _ _ (hr i r z a b)⟩, h.ok⟩
theorem SymsAt.tape {H H' : Hp} {t sc p : Addr} {ns : List Int} {zs : List (Str × Int)} (h : SymsAt H p zs) (T : TapeAt H t sc ns) (k : Kp [t] H H') (hp : p ≠ t) : SymsAt H' p zs :=
  h.keep k (fun z => by rcases List.mem_cons.mp z with z | z; exact hp z; cases z) (fun a ha xs e => by
    rcases List.mem_cons.mp ha with z | z
    · obtain ⟨⟨pl, pd, sd, h0, e2⟩, _, _⟩ := T
      rw [z, e2] at e; cases e
    · cases z)
theorem SymsAt.nil {H : Hp} {p : Addr} (h : H p = some (.lst [])) : SymsAt H p [] := ⟨⟨[], h, rfl, fun i r z a _ => by simp at a⟩, fun z hz => by cases hz⟩
theorem SymsAt.get {H : Hp} {p : Addr} {zs : List (Str × Int)} (h : SymsAt H p zs) {k : Int} (h0 : 0 ≤ k) (h1 : k < zs.length) :
    ∃ (xs : List V) (r : Addr) (z : Str) (n : Int), H p = some (.lst xs) ∧ xs.length = zs.length ∧ atI xs k = some (.ref r) ∧ H r = some (.tup [.str z, .int n]) ∧ NameOk z ∧ 0 ≤ n ∧ n ≤ 3 ∧ zs[k.toNat]? = some (z, n) := by
  obtain ⟨rs, e, el, hr⟩ := h.is
  have hk : k.toNat < rs.length := by omega
  have hz : k.toNat < zs.length := by omega
  have ok := h.ok _ (List.getElem_mem hz)
  exact ⟨_, rs[k.toNat], zs[k.toNat].1, zs[k.toNat].2, e, by rw [List.length_map, el], atI_of h0 (by rw [List.getElem?_map, List.getElem?_eq_getElem hk]; rfl),
    hr _ _ _ (List.getElem?_eq_getElem hk) (List.getElem?_eq_getElem hz), ok.1, ok.2.1, ok.2.2, List.getElem?_eq_getElem hz⟩
/-- a further symbol at the end -/
theorem SymsAt.push {H : Hp} {p r : Addr} {zs : List (Str × Int)} {xs : List V} {z : Str} {n : Int} (h : SymsAt H p zs) (e : H p = some (.lst xs)) (er : H r = some (.tup [.str z, .int n])) (hz : NameOk z) (h0 : 0 ≤ n) (h1 : n ≤ 3) :
    SymsAt (upd H p (.lst (xs ++ [.ref r]))) p (zs ++ [(z, n)]) := by
  obtain ⟨rs, e2, el, hr⟩ := h.is
  have ex : xs = rs.map V.ref := by rw [e] at e2; cases e2; rfl
  have nt : ∀ b ys, H b = some (.tup ys) → b ≠ p := fun b ys eb z => by rw [z, e] at eb; cases eb
  refine ⟨⟨rs ++ [r], by rw [upd_same, ex, List.map_append]; rfl, by rw [List.length_append, List.length_append, el]; rfl, fun i a y ea ey => ?_⟩, fun y hy => ?_⟩
  · by_cases hi : i < rs.length
    · rw [List.getElem?_append_left hi] at ea
      rw [List.getElem?_append_left (by omega)] at ey
      have q := hr i a y ea ey
      rw [upd_ne (nt _ _ q)]
      exact q
    · have hi2 : i = rs.length := by
        have := (List.getElem?_eq_some_iff.mp ea).1
        rw [List.length_append] at this
        simp at this
        omega
      subst hi2
      rw [List.getElem?_append_right (Nat.le_refl _), Nat.sub_self] at ea
      rw [el, List.getElem?_append_right (Nat.le_refl _), Nat.sub_self] at ey
      cases ea
      cases ey
      rw [upd_ne (nt _ _ er)]
      exact er
  · rcases List.mem_append.mp hy with hy | hy
    · exact h.ok y hy
    · rcases List.mem_cons.mp hy with rfl | hy
      · exact ⟨hz, h0, h1⟩
      · cases hy
end Lw
namespace Lw
open PySem PySem.Spec L2
/-! ### loops -/
def FrB (J : It) (g : TG) (tb : TS) (D : Ends) (σ : St) (H : Hp) : Prop := ∃ W : Nat → Nat → St → Hp → Prop, (∃ m, W 0 m σ H) ∧ ∀ i m σ H, W i m σ H →
  (J.stop i H ∧ D.nx σ H) ∨ (J.go i H ∧ ∃ N : St → Hp → Prop, (∀ σ' H', N σ' H' → ∃ m', m' < m ∧ W (i + 1) m' σ' H') ∧ ∀ x H', J.yld i H x H' → g x σ H' fun σ2 H2 => tb { D with nx := N, ct := N, bk := D.nx } σ2 H2)
theorem d_for {wi : TI} {g : TG} {tb : TS} {D : Ends} {σ : St} {H : Hp} (q : wi σ H fun J H1 => FrB J g tb D σ H1) : tFor wi g tb D σ H := q
theorem d_rng1 {ta : TA} {σ : St} {H : Hp} {R : It → Hp → Prop} (q : ta σ H fun vs H1 => ∃ j : Int, vs = [.int j] ∧ -(2 ^ 62) ≤ j ∧ j < 2 ^ 62 ∧ R (Itr 0 j.toNat) H1) : iRng1 ta σ H R := q
theorem d_rng2 {ta : TA} {σ : St} {H : Hp} {R : It → Hp → Prop} (q : ta σ H fun vs H1 => ∃ i j : Int, vs = [.int i, .int j] ∧ (-(2 ^ 62) ≤ i ∧ i < 2 ^ 62 ∧ -(2 ^ 62) ≤ j ∧ j < 2 ^ 62) ∧ R (Itr i (j - i).toNat) H1) : iRng2 ta σ H R := q
theorem d_ilist {K : PySem.W.Frag} {te : TE} {σ : St} {H : Hp} {R : It → Hp → Prop} (q : te σ H fun x H1 => ∃ a, x = .ref a ∧ (∃ xs, SqL K H1 a xs) ∧ R (Itl K a) H1) : iList K te σ H R := q
theorem d_itup {K : PySem.W.Frag} {te : TE} {σ : St} {H : Hp} {R : It → Hp → Prop} (q : te σ H fun x H1 => ∃ a, x = .ref a ∧ (∃ xs, SqT K H1 a xs) ∧ R (Itt K a) H1) : iTup K te σ H R := q
theorem fr_range {lo : Int} {n : Nat} {g : TG} {tb : TS} {D : Ends} {σ : St} {H : Hp} (Pv : Nat → St → Hp → Prop) (h0 : Pv 0 σ H)
    (hs : ∀ i σ H, i < n → Pv i σ H → g (.int (lo + i)) σ H fun σ2 H2 => tb { D with nx := Pv (i + 1), ct := Pv (i + 1), bk := D.nx } σ2 H2) (hd : ∀ σ H, Pv n σ H → D.nx σ H) : FrB (Itr lo n) g tb D σ H := for_range Pv h0 hs hd
theorem fr_list {K : PySem.W.Frag} {a : Addr} {xs : List V} {g : TG} {tb : TS} {D : Ends} {σ : St} {H : Hp} (Pv : Nat → St → Hp → Prop) (h0 : Pv 0 σ H) (hl : ∀ i σ H, i ≤ xs.length → Pv i σ H → SqL K H a xs)
    (hs : ∀ i x σ H, xs[i]? = some x → Pv i σ H → g x σ H fun σ2 H2 => tb { D with nx := Pv (i + 1), ct := Pv (i + 1), bk := D.nx } σ2 H2) (hd : ∀ σ H, Pv xs.length σ H → D.nx σ H) : FrB (Itl K a) g tb D σ H := for_list Pv h0 hl hs hd
theorem fr_tup {K : PySem.W.Frag} {a : Addr} {xs : List V} {g : TG} {tb : TS} {D : Ends} {σ : St} {H : Hp} (Pv : Nat → St → Hp → Prop) (h0 : Pv 0 σ H) (hl : ∀ i σ H, i ≤ xs.length → Pv i σ H → SqT K H a xs)
    (hs : ∀ i x σ H, xs[i]? = some x → Pv i σ H → g x σ H fun σ2 H2 => tb { D with nx := Pv (i + 1), ct := Pv (i + 1), bk := D.nx } σ2 H2) (hd : ∀ σ H, Pv xs.length σ H → D.nx σ H) : FrB (Itt K a) g tb D σ H := for_tup Pv h0 hl hs hd
/-! ### comprehensions -/
def LcB (J : It) (g : TG) (tt : TT) (te : TE) (vs : List Nat) (σ : St) (H1 : Hp) (D : Addr) (Qd : Hp → Prop) : Prop := ∃ W : Nat → Nat → Hp → Prop, (∃ m, W 0 m (upd H1 D (.lst []))) ∧ ∀ i m H, W i m H →
  (J.stop i H ∧ Qd H) ∨ (J.go i H ∧ ∃ Nx : Hp → Prop, (∀ H', Nx H' → ∃ m', m' < m ∧ W (i + 1) m' H') ∧ ∀ x H', J.yld i H x H' → g x (wipe σ vs) H' fun σ2 H2 => wipe σ2 vs = wipe σ vs ∧ tt σ2 H2 fun b H3 =>
    if b = true then te σ2 H3 fun y H4 => ∃ acc, H4 D = some (.lst acc) ∧ acc.length < sizeLine ∧ Nx (upd H4 D (.lst (acc ++ [y]))) else Nx H3)
theorem d_lc {wi : TI} {g : TG} {tt : TT} {te : TE} {vs : List Nat} {σ : St} {H : Hp} {Q : VK} (q : wi σ H fun J H1 => ∀ D, H1 D = none → LcB J g tt te vs σ H1 D fun H2 => Q (.ref D) H2) : tLc wi g tt te vs σ H Q := q
theorem lb_range {lo : Int} {n : Nat} {g : TG} {te : TE} {vs : List Nat} {σ : St} {H1 : Hp} {D : Addr} {Qd : Hp → Prop} (Pv : Nat → Hp → Prop) (h0 : Pv 0 (upd H1 D (.lst [])))
    (hs : ∀ i H, i < n → Pv i H → g (.int (lo + i)) (wipe σ vs) H fun σ2 H2 => wipe σ2 vs = wipe σ vs ∧ te σ2 H2 fun y H4 => ∃ acc, H4 D = some (.lst acc) ∧ acc.length < sizeLine ∧ Pv (i + 1) (upd H4 D (.lst (acc ++ [y])))) (hd : ∀ H, Pv n H → Qd H) :
    LcB (Itr lo n) g tYes te vs σ H1 D Qd := lc_range Pv h0 (fun i H hi p => hs i H hi p) hd
theorem lb_list {K : PySem.W.Frag} {a : Addr} {xs : List V} {g : TG} {te : TE} {vs : List Nat} {σ : St} {H1 : Hp} {D : Addr} {Qd : Hp → Prop} (Pv : Nat → Hp → Prop) (h0 : Pv 0 (upd H1 D (.lst []))) (hl : ∀ i H, i ≤ xs.length → Pv i H → SqL K H a xs)
    (hs : ∀ i x H, xs[i]? = some x → Pv i H → g x (wipe σ vs) H fun σ2 H2 => wipe σ2 vs = wipe σ vs ∧ te σ2 H2 fun y H4 => ∃ acc, H4 D = some (.lst acc) ∧ acc.length < sizeLine ∧ Pv (i + 1) (upd H4 D (.lst (acc ++ [y])))) (hd : ∀ H, Pv xs.length H → Qd H) :
    LcB (Itl K a) g tYes te vs σ H1 D Qd := lc_list Pv h0 hl (fun i x H hx p => hs i x H hx p) hd
theorem lb_tup {K : PySem.W.Frag} {a : Addr} {xs : List V} {g : TG} {te : TE} {vs : List Nat} {σ : St} {H1 : Hp} {D : Addr} {Qd : Hp → Prop} (Pv : Nat → Hp → Prop) (h0 : Pv 0 (upd H1 D (.lst []))) (hl : ∀ i H, i ≤ xs.length → Pv i H → SqT K H a xs)
    (hs : ∀ i x H, xs[i]? = some x → Pv i H → g x (wipe σ vs) H fun σ2 H2 => wipe σ2 vs = wipe σ vs ∧ te σ2 H2 fun y H4 => ∃ acc, H4 D = some (.lst acc) ∧ acc.length < sizeLine ∧ Pv (i + 1) (upd H4 D (.lst (acc ++ [y])))) (hd : ∀ H, Pv xs.length H → Qd H) :
    LcB (Itt K a) g tYes te vs σ H1 D Qd := lc_tup Pv h0 hl (fun i x H hx p => hs i x H hx p) hd
end Lw
namespace Lw
open PySem PySem.Spec L2
theorem fresh_of {H H1 : Hp} {t sc p : Addr} {ns : List Int} (k : Kp [t] H H1) (T : TapeAt H1 t sc ns) (hp : H1 p = none) : H p = none := by
  cases e : H p with
  | none => rfl
  | some o =>
    have e2 := k p o (fun z => by
      rcases List.mem_cons.mp z with z | z
      · exact T.t_some hp z.symm
      · cases z) e
    rw [hp] at e2
    cases e2
theorem kept_at {H H1 : Hp} {t p : Addr} {o : HO} (k : Kp [t] H H1) (h : p ≠ t) (e : H p = some o) : H1 p = some o := k p o (fun z => by
  rcases List.mem_cons.mp z with z | z
  · exact h z
  · cases z) e
end Lw

set_option maxRecDepth 100000
set_option maxHeartbeats 4000000
/-! drawn terms -/
namespace Lw
open PySem PySem.Spec L2
/-! ### calls with a named reading -/
section
variable {X : Cx} {K : PySem.W.Frag} {H : Hp} {Q : VK} {p : Addr} {ys : List V}
def rLenN (K : PySem.W.Frag) : List V → Hp → VK → Prop := fun xs H Q => ∃ p ys, xs = [.ref p] ∧ (SqL K H p ys ∨ SqT K H p ys) ∧ Q (.int ys.length) H
theorem c_len : CallR X (.builtin "len") (rLenN X.K) := call_len_seq
theorem d_lenL (h : H p = some (.lst ys)) (q : Q (.int ys.length) H) : rLenN K [.ref p] H Q := ⟨p, ys, rfl, .inl (sqL h), q⟩
theorem d_lenT (h : H p = some (.tup ys)) (q : Q (.int ys.length) H) : rLenN K [.ref p] H Q := ⟨p, ys, rfl, .inr (sqT h), q⟩
def rTupN (K : PySem.W.Frag) : List V → Hp → VK → Prop := fun xs H Q => ∃ p ys, xs = [.ref p] ∧ ((SqL K H p ys ∧ ∀ l, H l = none → Q (.ref l) (upd H l (.tup ys))) ∨ (SqT K H p ys ∧ Q (.ref p) H))
theorem c_tup : CallR X (.type "tuple") (rTupN X.K) := call_tuple_of
theorem d_tupL (h : H p = some (.lst ys)) (q : ∀ l, H l = none → Q (.ref l) (upd H l (.tup ys))) : rTupN K [.ref p] H Q := ⟨p, ys, rfl, .inl ⟨sqL h, q⟩⟩
theorem d_catT {a b : Addr} {xs ys : List V} (ha : H a = some (.tup xs)) (hb : H b = some (.tup ys)) (hx : xs ≠ []) (hz : xs.length + ys.length ≤ 1000000) (q1 : ys = [] → Q (.ref a) H) (q2 : ys ≠ [] → ∀ p, H p = none → Q (.ref p) (upd H p (.tup (xs ++ ys)))) :
    rCatT K (.ref a) (.ref b) H Q := ⟨a, b, xs, ys, rfl, rfl, sqT ha, sqT hb, hx, smallN hz, q1, q2⟩
end
/-- a term that may be drawn with the symbols and the variables; d: one less than the depth that is left -/
inductive Gen (zs : List (Str × Int)) (vars : List Tm) : Nat → Tm → Prop where
  | var {d : Nat} {t : Tm} (h : t ∈ vars) : Gen zs vars d t
  | leaf {z : Str} {n : Int} (h : (z, n) ∈ zs) : Gen zs vars 0 (.app z [])
  | app {d : Nat} {z : Str} {n : Int} {ts : List Tm} (h : (z, n) ∈ zs) (hl : ts.length = n.toNat) (hs : ∀ u ∈ ts, Gen zs vars d u) : Gen zs vars (d + 1) (.app z ts)
theorem Gen.depth {zs : List (Str × Int)} {vars : List Tm} {b : Nat} (hv : ∀ t ∈ vars, t.depth ≤ b) (hb : 1 ≤ b) {d : Nat} {t : Tm} (h : Gen zs vars d t) : t.depth ≤ d + b := by
  induction h with
  | var h => have := hv _ h; omega
  | leaf h => rw [Tm.depth_app, Tm.depths_nil]; omega
  | app h hl hs ih =>
    rw [Tm.depth_app]
    have := Tm.depths_le (d := _) ih
    omega
theorem Tm.sizes_le {ts : List Tm} {m : Nat} (h : ∀ t ∈ ts, t.size ≤ m) : Tm.sizes ts ≤ ts.length * m := by
  induction ts with
  | nil => rw [Tm.sizes_nil]; exact Nat.zero_le _
  | cons t r ih =>
    rw [Tm.sizes_cons, List.length_cons, Nat.succ_mul]
    have h1 := h t List.mem_cons_self
    have h2 := ih fun u hu => h u (List.mem_cons_of_mem _ hu)
    omega
/-- how great a drawn term may be: at most three arguments -/
def genMax (m : Nat) : Nat → Nat
  | 0 => m
  | d + 1 => 1 + 3 * genMax m d
theorem genMax_ge (m d : Nat) : m ≤ genMax m d := by
  induction d with
  | zero => exact Nat.le_refl _
  | succ d ih => show m ≤ 1 + 3 * genMax m d; omega
theorem Gen.size {zs : List (Str × Int)} {vars : List Tm} {m : Nat} (hz : ∀ z ∈ zs, z.2 ≤ 3) (hv : ∀ t ∈ vars, t.size ≤ m) (hm : 1 ≤ m) {d : Nat} {t : Tm} (h : Gen zs vars d t) : t.size ≤ genMax m d := by
  induction h with
  | var h => exact Nat.le_trans (hv _ h) (genMax_ge m _)
  | leaf h => rw [Tm.size_app, Tm.sizes_nil]; exact hm
  | @app d z n ts h hl hs ih =>
    rw [Tm.size_app]
    have h1 := Tm.sizes_le ih
    have h2 : ts.length ≤ 3 := by have := hz _ h; simp only at this; omega
    have h3 : ts.length * genMax m d ≤ 3 * genMax m d := Nat.mul_le_mul_right _ h2
    show 1 + Tm.sizes ts ≤ 1 + 3 * genMax m d
    omega
structure VarsAt (H : Hp) (a : Addr) (vars : List Tm) : Prop where
  is : ∃ ws : List V, H a = some (.lst ws) ∧ Ats H ws vars
theorem VarsAt.keep {H H' : Hp} {p : Addr} {vars : List Tm} (h : VarsAt H p vars) {l : List Addr} (k : Kp l H H') (hp : p ∉ l) (hl : ∀ a ∈ l, ∀ xs, H a ≠ some (.tup xs)) : VarsAt H' p vars := by
  obtain ⟨ws, e, a⟩ := h.is
  exact ⟨ws, k _ _ hp e, a.keep (k.keepT hl)⟩
theorem TapeAt.not_tup {H : Hp} {t sc : Addr} {ns : List Int} (T : TapeAt H t sc ns) (xs : List V) : H t ≠ some (.tup xs) := by
  obtain ⟨⟨pl, pd, sd, h0, e2⟩, _, _⟩ := T
  rw [e2]
  intro z
  cases z
theorem one_not {a t : Addr} (h : a ≠ t) : a ∉ [t] := fun z => by
  rcases List.mem_cons.mp z with z | z
  · exact h z
  · cases z
theorem VarsAt.tape {H H' : Hp} {t sc p : Addr} {ns : List Int} {vars : List Tm} (h : VarsAt H p vars) (T : TapeAt H t sc ns) (k : Kp [t] H H') (hp : p ≠ t) : VarsAt H' p vars :=
  h.keep k (one_not hp) (fun a ha xs e => by
    rcases List.mem_cons.mp ha with z | z
    · exact T.not_tup xs (z ▸ e)
    · cases z)
theorem VarsAt.ne {H : Hp} {t sc p : Addr} {ns : List Int} {vars : List Tm} (h : VarsAt H p vars) (T : TapeAt H t sc ns) : p ≠ t := by
  obtain ⟨ws, e, a⟩ := h.is
  obtain ⟨⟨pl, pd, sd, h0, e2⟩, e3, _⟩ := T
  intro z
  rw [z, e2] at e
  cases e
  cases vars with
  | nil => have := a.len; simp at this
  | cons x r =>
    have := a.head
    obtain ⟨n, vs, ts, _, q, _⟩ := this.app_ats
    rw [e3] at q
    cases q
theorem SymsAt.ne {H : Hp} {t sc p : Addr} {ns : List Int} {zs : List (Str × Int)} (h : SymsAt H p zs) (T : TapeAt H t sc ns) : p ≠ t := by
  obtain ⟨rs, e, _, _⟩ := h.is
  obtain ⟨⟨pl, pd, sd, h0, e2⟩, e3, _⟩ := T
  intro z
  rw [z, e2] at e
  have e4 : [V.ref sc, V.int pl, V.int pd, V.int sd] = rs.map V.ref := HO.lst.inj (Option.some.inj e)
  cases rs with
  | nil => cases e4
  | cons x r =>
    cases r with
    | nil => cases e4
    | cons y r => rw [List.map_cons, List.map_cons] at e4; injection e4 with _ e5; injection e5 with e6 _; cases e6
def spTerm (d : Nat) : Sp := fun vs H Q _ => ∃ (t sc sy va : Addr) (ns : List Int) (zs : List (Str × Int)) (vars : List Tm), vs = [.ref t, .ref sy, .ref va, .int ((d : Int) + 1)] ∧ TapeAt H t sc ns ∧ SymsAt H sy zs ∧ 1 ≤ zs.length ∧ zs.length ≤ 100000 ∧
  VarsAt H va vars ∧ vars.length ≤ 100000 ∧ ∀ (H' : Hp) (v : V) (tm : Tm), Kp [t] H H' → TapeAt H' t sc ns → At H' v tm → Gen zs vars d tm → Q v H'
def spNone : Sp := fun _ _ _ _ => False
end Lw

set_option maxRecDepth 100000
set_option maxHeartbeats 4000000
/-! isinstance, sizes, depths, occurrences -/
namespace Lw
open PySem PySem.Spec L2
section
variable {X : Cx} {K : PySem.W.Frag} {H : Hp} {Q : VK} {a : Addr} {xs : List V}
theorem k_ii : kitB "int" "int" = some true := by decide +kernel
theorem k_ti : kitB "tuple" "int" = some false := by decide +kernel
theorem k_tt : kitB "tuple" "tuple" = some true := by decide +kernel
theorem k_it : kitB "int" "tuple" = some false := by decide +kernel
theorem k_nt : kitB "NoneType" "tuple" = some false := by decide +kernel
theorem k_ni : kitB "NoneType" "int" = some false := by decide +kernel
theorem d_isII {i : Int} (q : Q (.bl true) H) : rIsi K [.int i, .ty "int"] H Q := ⟨_, _, _, _, true, rfl, .ty _, .base (.int i), kit_ty k_ii, q⟩
theorem d_isIT {i : Int} (q : Q (.bl false) H) : rIsi K [.int i, .ty "tuple"] H Q := ⟨_, _, _, _, false, rfl, .ty _, .base (.int i), kit_ty k_it, q⟩
theorem d_isTI (h : H a = some (.tup xs)) (q : Q (.bl false) H) : rIsi K [.ref a, .ty "int"] H Q := ⟨_, _, _, _, false, rfl, .ty _, .base (.tup h), kit_ty k_ti, q⟩
theorem d_isTT (h : H a = some (.tup xs)) (q : Q (.bl true) H) : rIsi K [.ref a, .ty "tuple"] H Q := ⟨_, _, _, _, true, rfl, .ty _, .base (.tup h), kit_ty k_tt, q⟩
theorem d_isNT (q : Q (.bl false) H) : rIsi K [.non, .ty "tuple"] H Q := ⟨_, _, _, _, false, rfl, .ty _, .base .non, kit_ty k_nt, q⟩
theorem d_isNI (q : Q (.bl false) H) : rIsi K [.non, .ty "int"] H Q := ⟨_, _, _, _, false, rfl, .ty _, .base .non, kit_ty k_ni, q⟩
/-- truth of a list, as a test -/
def rTru (K : PySem.W.Frag) (x : V) (H : Hp) (Q : Bool → Hp → Prop) : Prop := ∃ k, TruV K x H k ∧ Q k H
def tTru (K : PySem.W.Frag) (ta : TE) : TT := fun σ H Q => ta σ H fun x H1 => rTru K x H1 Q
theorem p_tru {a : Expr} {ta : TE} (ha : PE X a ta) (he : ∀ whole, isTrue a X.env whole = (do let v ← whole; standAt a.pos; holding [v] (truthy v)) := by intro _; rfl) : PT X a (tTru X.K ta) := pt_truth ha he
theorem d_tru {ta : TE} {σ : St} {Q : Bool → Hp → Prop} (q : ta σ H fun x H1 => rTru K x H1 Q) : tTru K ta σ H Q := q
theorem d_truL {Q : Bool → Hp → Prop} (h : H a = some (.lst xs)) (q : Q (!xs.isEmpty) H) : rTru K (.ref a) H Q := ⟨_, .inl ⟨xs, sqL h, rfl⟩, q⟩
theorem d_popL {ys : List V} {y : V} (h : H a = some (.lst (ys ++ [y]))) (q : Q y (upd H a (.lst ys))) : rPop (.ref a) [] H Q :=
  ⟨a, _, y, rfl, rfl, h, by rw [List.length_append]; show (ys ++ [y])[ys.length + 1 - 1]? = _; rw [Nat.add_sub_cancel, List.getElem?_append_right (Nat.le_refl _), Nat.sub_self]; rfl, by rw [List.dropLast_concat]; exact q⟩
theorem d_extT {zs : List V} {b : Addr} (h : H a = some (.lst xs)) (hb : H b = some (.tup zs)) (hz : xs.length + zs.length ≤ 1000000) (q : Q .non (upd H a (.lst (xs ++ zs)))) : rExtT K (.ref a) [.ref b] H Q := ⟨a, b, xs, zs, rfl, rfl, h, sqT hb, hz, q⟩
theorem d_down {te : TE} {σ : St} (q : te σ H fun x H1 => ∃ a y xs, x = .ref a ∧ SqT K H1 a (y :: xs) ∧ ∀ p, H1 p = none → Q (.ref p) (upd H1 p (.tup xs.reverse))) : tDownT K te σ H Q := q
theorem d_while {c : TT} {tb : TS} {D : Ends} {σ : St} {m0 : Nat} (W : Nat → St → Hp → Prop) (h0 : W m0 σ H)
    (hs : ∀ m σ H, W m σ H → c σ H fun b H1 => if b = true then ∃ N : St → Hp → Prop, (∀ σ' H', N σ' H' → ∃ m', m' < m ∧ W m' σ' H') ∧ tb { D with nx := N, ct := N, bk := D.nx } σ H1 else D.nx σ H1) : tWhile c tb D σ H := ⟨W, ⟨m0, h0⟩, hs⟩
end
/-- a slice t[1:] of a tuple, a new one -/
theorem d_slT1 {K : PySem.W.Frag} {H : Hp} {Q : VK} {a : Addr} {y : V} {xs : List V} (h : H a = some (.tup (y :: xs))) (q : ∀ p, H p = none → Q (.ref p) (upd H p (.tup xs))) : rSlT K (.ref a) (some 1) none H Q := by
  have e1 : HT.sIx (y :: xs).length 0 (some 1) = 1 := by
    rw [show (1 : Int) = ((1 : Nat) : Int) from rfl, HT.sIx_nat, List.length_cons]; omega
  have e : cutV (y :: xs) (some 1) none = xs := by
    unfold cutV
    rw [e1, HT.sIx_none, List.length_cons, Nat.add_sub_cancel]
    show xs.take xs.length = xs
    exact List.take_length
  refine ⟨a, _, rfl, sqT h, fun z => ?_, fun p hp => ?_⟩
  · rw [e1] at z
    exact absurd z.1 (by decide)
  · rw [e]
    exact q p hp
def spOcc : Sp := fun vs H Q _ => ∃ (v : V) (tm : Tm), vs = [v] ∧ At H v tm ∧ tm.size ≤ 100000 ∧ ∀ (H' : Hp) (p : Addr) (fs : List V), Kp [] H H' → H p = none → H' p = some (.lst fs) → Ats H' fs tm.occ → Q (.ref p) H'
def spSize : Sp := fun vs H Q _ => ∃ (v : V) (tm : Tm), vs = [v] ∧ At H v tm ∧ tm.size ≤ 100000 ∧ ∀ (H' : Hp), Kp [] H H' → Q (.int tm.size) H'
/-- .. for terms of at most this depth -/
def spSizeD (d : Nat) : Sp := fun vs H Q _ => ∃ (v : V) (tm : Tm), vs = [v] ∧ At H v tm ∧ tm.size ≤ 100000 ∧ tm.depth ≤ d ∧ ∀ (H' : Hp), Kp [] H H' → Q (.int tm.size) H'
def spDepthD (d : Nat) : Sp := fun vs H Q _ => ∃ (v : V) (tm : Tm), vs = [v] ∧ At H v tm ∧ tm.size ≤ 100000 ∧ tm.depth ≤ d ∧ ∀ (H' : Hp), Kp [] H H' → Q (.int tm.depth) H'
theorem At.int {H : Hp} {v : V} {tm : Tm} (h : At H v tm) : (∃ i, v = .int i ∧ tm = .var i) ∨ ∃ a n vs ts, v = .ref a ∧ tm = .app n ts ∧ H a = some (.tup (.str n :: vs)) ∧ Ats H vs ts := by
  cases h with
  | var i => exact .inl ⟨i, rfl, rfl⟩
  | app e hl hs => exact .inr ⟨_, _, _, _, rfl, rfl, e, hl, hs⟩
end Lw
namespace Lw
open PySem PySem.Spec L2
/-- the last one apart -/
theorem Ats.snoc {H : Hp} {ws : List V} {wt : List Tm} (h : Ats H ws wt) (hn : ws ≠ []) : ∃ ys y us u, ws = ys ++ [y] ∧ wt = us ++ [u] ∧ Ats H ys us ∧ At H y u := by
  have hw : wt ≠ [] := fun z => hn (by have := h.len; rw [z] at this; exact List.length_eq_zero_iff.mp this)
  refine ⟨ws.dropLast, ws.getLast hn, wt.dropLast, wt.getLast hw, (List.dropLast_concat_getLast hn).symm, (List.dropLast_concat_getLast hw).symm, ?_, ?_⟩
  · rw [List.dropLast_eq_take, List.dropLast_eq_take, h.len]
    exact h.take _
  · refine h.at' (ws.length - 1) _ _ ?_ ?_
    · rw [List.getLast_eq_getElem hn, List.getElem?_eq_getElem]
    · rw [List.getLast_eq_getElem hw, h.len, List.getElem?_eq_getElem]
theorem Kp.ats {l : List Addr} {H H' : Hp} {vs : List V} {ts : List Tm} (k : Kp l H H') (hl : ∀ a ∈ l, ∀ xs, H a ≠ some (.tup xs)) (h : Ats H vs ts) : Ats H' vs ts := h.keep (k.keepT hl)
theorem no_tup {H : Hp} {a : Addr} {xs : List V} (h : H a = some (.lst xs)) : ∀ ys, H a ≠ some (.tup ys) := fun ys e => by rw [h] at e; cases e
theorem no_tup1 {H : Hp} {a : Addr} {xs : List V} (h : H a = some (.lst xs)) : ∀ b ∈ [a], ∀ ys, H b ≠ some (.tup ys) := fun b hb ys => by
  rcases List.mem_cons.mp hb with z | z
  · rw [z]; exact no_tup h ys
  · cases z
end Lw
namespace Lw
open PySem PySem.Spec L2
theorem depths_max : ∀ (ts : List Tm) (m : Int), ((ts.map fun t => (t.depth : Int)) = [] ∧ m = 0) ∨ (m ∈ (ts.map fun t => (t.depth : Int)) ∧ ∀ a, a ∈ (ts.map fun t => (t.depth : Int)) → a ≤ m) → m = (Tm.depths ts : Int)
  | ts, m, .inl ⟨h, e⟩ => by
    have z : ts = [] := List.map_eq_nil_iff.mp h
    rw [z, Tm.depths_nil, e]; rfl
  | ts, m, .inr ⟨h, hm⟩ => by
    obtain ⟨t, ht, e⟩ := List.mem_map.mp h
    have h1 := Tm.depth_mem ht
    have h2 : Tm.depths ts ≤ m.toNat := Tm.depths_le fun u hu => by
      have := hm _ (List.mem_map.mpr ⟨u, hu, rfl⟩)
      omega
    omega
theorem sizes_sum : ∀ ts : List Tm, (ts.map fun t => (t.size : Int)).sum = (Tm.sizes ts : Int)
  | [] => by rw [Tm.sizes_nil]; rfl
  | t :: r => by
    rw [List.map_cons, List.sum_cons, sizes_sum r, Tm.sizes_cons]
    omega
theorem d_maxD {K : PySem.W.Frag} {H : Hp} {Q : VK} {a : Addr} {ns : List Int} {d : Int} (h : H a = some (.lst (ns.map V.int))) (q : ∀ m : Int, ((ns = [] ∧ m = d) ∨ (m ∈ ns ∧ ∀ a, a ∈ ns → a ≤ m)) → Q (.int m) H) : rMaxD K [.ref a] [.int d] H Q := ⟨a, ns, d, rfl, rfl, sqL h, q⟩
theorem d_sum {K : PySem.W.Frag} {H : Hp} {Q : VK} {a : Addr} {ns : List Int} (h : H a = some (.lst (ns.map V.int))) (q : Q (.int ns.sum) H) : rSum K [.ref a] H Q := ⟨a, ns, rfl, sqL h, q⟩
theorem take_map_int {α : Type} (f : α → Int) (ts : List α) (i : Nat) (t : α) (h : ts[i]? = some t) : ((ts.take i).map f).map V.int ++ [V.int (f t)] = ((ts.take (i + 1)).map f).map V.int := by
  rw [List.take_add_one, h, List.map_append, List.map_append]
  rfl
end Lw
namespace Lw
open PySem PySem.Spec L2
/-- [f(x) for x in t], f handing back an int -/
theorem lb_call {α : Type} {AtR : Hp → V → α → Prop} {K : PySem.W.Frag} {r : Addr} {vs : List V} {ts : List α} {σ : St} {i : Nat} {B : Hp} {D : Addr} {Qd : Hp → Prop} {sp : Sp} (f : α → Int) (hi : i < σ.length) (hD : B D = none) (er : B r = some (.tup vs)) (hn : vs.length ≤ 100000) (hl : vs.length = ts.length)
    (at' : ∀ (j : Nat) v t H', vs[j]? = some v → ts[j]? = some t → Kp [D] B H' → H' D ≠ none → (∀ xs, H' D ≠ some (.tup xs)) → AtR H' v t)
    (call : ∀ v t H' (Q : VK) E, t ∈ ts → AtR H' v t → (∀ H'', Kp [] H' H'' → Q (.int (f t)) H'') → sp [v] H' Q E) (hd : ∀ H', Kp [D] B H' → H' D = some (.lst ((ts.map f).map V.int)) → Qd H') :
    LcB (Itt K r) (gName i) tYes (tCall sp [] E0 (tCons (tVar i) tNil)) [i] σ B D Qd := by
  have nr : r ≠ D := ne_of_none er hD
  have nr1 : r ∉ [D] := fun z => by rcases List.mem_cons.mp z with z | z; exact nr z; cases z
  refine lb_tup (xs := vs) (fun j H' => Kp [D] B H' ∧ H' D = some (.lst (((ts.take j).map f).map V.int))) ⟨Kp.new hD, upd_same⟩ (fun j H' _ h => sqT (h.1 r _ nr1 er)) (fun j v H' hv h => ?_) (fun H' h => ?_)
  · obtain ⟨kB, eD⟩ := h
    have hj : j < vs.length := (List.getElem?_eq_some_iff.mp hv).1
    have ht : ts[j]? = some ts[j] := List.getElem?_eq_getElem (by omega)
    have a1 := at' j v _ H' hv ht kB (by rw [eD]; intro z; cases z) (fun xs z => by rw [eD] at z; cases z)
    show wipe (List.set (wipe σ [i]) i (some v)) [i] = wipe σ [i] ∧ _
    refine ⟨?_, ?_⟩
    · show ((σ.set i none).set i (some v)).set i none = σ.set i none
      rw [List.set_set, List.set_set]
    refine d_call (d_cons ?_)
    refine d_var (v := v) ?_ ?_
    · show ((σ.set i none).set i (some v))[i]? = _
      rw [List.getElem?_set_self (by rw [List.length_set]; exact hi)]
    refine d_nil ?_
    refine call v ts[j] H' _ _ (List.getElem_mem _) a1 (fun H2 k2 => ?_)
    have eD2 := k2 _ _ (by simp) eD
    refine ⟨_, eD2, smallL (by rw [List.length_map, List.length_map, List.length_take]; omega), (kB.trans (k2.mono (by simp))).trans (Kp.put (by simp)), ?_⟩
    rw [upd_same, take_map_int f ts j _ ht]
  · obtain ⟨kB, eD⟩ := h
    rw [List.take_of_length_le (by omega)] at eD
    exact hd H' kB eD
end Lw
namespace Lw
open PySem L2
theorem no_tup0 {H : Hp} {a : Addr} (h : H a = none) : ∀ b ∈ [a], ∀ ys, H b ≠ some (.tup ys) := fun b hb ys e => by
  rcases List.mem_cons.mp hb with z | z
  · rw [z, h] at e; cases e
  · cases z
end Lw
namespace Lw
theorem Tm.depths_append : ∀ a b : List Tm, Tm.depths (a ++ b) = max (Tm.depths a) (Tm.depths b)
  | [], b => by rw [List.nil_append, Tm.depths_nil]; omega
  | t :: a, b => by rw [List.cons_append, Tm.depths_cons, Tm.depths_cons, Tm.depths_append a b]; omega
end Lw
namespace Lw
open PySem PySem.Spec L2
theorem d_cut {t u : TS} {D : Ends} {σ : St} {H : Hp} (Mid : St → Hp → Prop) (h : t { D with nx := Mid } σ H) (q : ∀ σ' H', Mid σ' H' → u D σ' H') : C8.tCut t u D σ H := ⟨Mid, h, q⟩
/-- told and due are one int -/
def spAlikeI : Sp := fun vs H Q _ => ∃ i : Int, vs = [.int i, .int i] ∧ i.natAbs < 2 ^ 64 ∧ ∀ H', Kp [] H H' → Q (.bl true) H'
def spTermLe (m : Nat) : Sp := fun vs H Q E => ∃ d, d ≤ m ∧ spTerm d vs H Q E
theorem log_small {i : Int} (h : i.natAbs < 2 ^ 64) : i.natAbs.log2 < 1920 := by
  by_cases z : i.natAbs = 0
  · rw [z]; decide
  · have := (Nat.log2_lt z).mpr h
    omega
end Lw
namespace Lw
open PySem PySem.Spec L2
def rReprI : List V → Hp → VK → Prop := fun xs H Q => ∃ i, xs = [.int i] ∧ i.natAbs.log2 < 1920 ∧ Q (.str (toString i)) H
theorem c_reprI {X : Cx} : CallR X (.builtin "repr") rReprI := SkE.call_repr_int
theorem d_reprI {i : Int} {H : Hp} {Q : VK} (h : i.natAbs.log2 < 1920) (q : Q (.str (toString i)) H) : rReprI [.int i] H Q := ⟨i, rfl, h, q⟩
end Lw
namespace Lw
open PySem PySem.Spec L2
/-- what the law's own draws lean on -/
structure Dw (H : Hp) (t sc sy va : Addr) (ns : List Int) (zs : List (Str × Int)) (vars : List Tm) : Prop where
  tp : TapeAt H t sc ns
  sy : SymsAt H sy zs
  va : VarsAt H va vars
theorem Dw.tape {H H' : Hp} {t sc sy va : Addr} {ns : List Int} {zs : List (Str × Int)} {vars : List Tm} (h : Dw H t sc sy va ns zs vars) (k : Kp [t] H H') (T : TapeAt H' t sc ns) : Dw H' t sc sy va ns zs vars :=
  ⟨T, h.sy.tape h.tp k (h.sy.ne h.tp), h.va.tape h.tp k (h.va.ne h.tp)⟩
theorem Dw.nil {H H' : Hp} {t sc sy va : Addr} {ns : List Int} {zs : List (Str × Int)} {vars : List Tm} (h : Dw H t sc sy va ns zs vars) (k : Kp [] H H') : Dw H' t sc sy va ns zs vars :=
  h.tape (k.mono (by simp)) (h.tp.nil k)
theorem At.nil {H H' : Hp} {v : V} {tm : Tm} (h : At H v tm) (k : Kp [] H H') : At H' v tm := h.keep (k.keepT (by simp))
theorem At.tape {H H' : Hp} {v : V} {tm : Tm} {t sc : Addr} {ns : List Int} (h : At H v tm) (k : Kp [t] H H') (T : TapeAt H t sc ns) : At H' v tm := h.keep (T.keepT k)
theorem cutV_take (xs : List V) (n : Int) (h : 0 ≤ n) : cutV xs none (some n) = xs.take n.toNat := by
  obtain ⟨m, rfl⟩ := Int.eq_ofNat_of_zero_le h
  unfold cutV
  rw [HT.sIx_none, HT.sIx_nat]
  show ((xs.drop 0).take (min m xs.length - 0)) = _
  rw [List.drop_zero, Nat.sub_zero, Int.toNat_natCast, ← List.take_eq_take_min]
theorem ats_ints {H : Hp} : ∀ is : List Int, Ats H (is.map V.int) (is.map Tm.var)
  | [] => .nil
  | i :: r => .cons (.var i) (ats_ints r)
theorem d_slL {K : PySem.W.Frag} {H : Hp} {Q : VK} {a : Addr} {xs : List V} {lo hi : Option Int} (h : H a = some (.lst xs)) (q : ∀ p, H p = none → Q (.ref p) (upd H p (.lst (cutV xs lo hi)))) : rSlL K (.ref a) lo hi H Q := ⟨a, xs, rfl, sqL h, q⟩
theorem Dw.sym0 {H : Hp} {t sc sy va : Addr} {ns : List Int} {zs : List (Str × Int)} {vars : List Tm} (h : Dw H t sc sy va ns zs vars) {k : Int} (h0 : 0 ≤ k) (h1 : k < zs.length) :
    ∃ (xs : List V) (r : Addr) (z : Str) (n : Int), H sy = some (.lst xs) ∧ xs.length = zs.length ∧ atI xs k = some (.ref r) ∧ H r = some (.tup [.str z, .int n]) ∧ NameOk z := by
  obtain ⟨xs, r, z, n, a, b, c, d, e, _⟩ := h.sy.get h0 h1
  exact ⟨xs, r, z, n, a, b, c, d, e⟩
/-- [draw(..) for k in range(n)]: drawn terms -/
theorem lb_terms {t sc sy va : Addr} {ns : List Int} {zs : List (Str × Int)} {vars : List Tm} {σ : St} {i m d : Nat} {n : Nat} {B : Hp} {D : Addr} {Qd : Hp → Prop} {te : TE} (hD : B D = none) (W : Dw B t sc sy va ns zs vars) (z1 : 1 ≤ zs.length) (z2 : zs.length ≤ 100000) (v2 : vars.length ≤ 100000) (hn : n ≤ 100000)
    (hte : ∀ j H' (Q : VK), spTermLe m [.ref t, .ref sy, .ref va, .int ((d : Int) + 1)] H' Q E0 → te (((wipe σ [i]).set i (some (.int (0 + (j : Nat)))))) H' Q) (hd0 : d ≤ m)
    (hd : ∀ H' vs ts, Kp [D, t] B H' → H' D = some (.lst vs) → Ats H' vs ts → ts.length = n → (∀ u ∈ ts, Gen zs vars d u) → Dw H' t sc sy va ns zs vars → Qd H') :
    LcB (Itr 0 n) (gName i) tYes te [i] σ B D Qd := by
  have nD1 : D ≠ t := fun z => W.tp.t_some hD z.symm
  have nD2 : D ≠ sc := fun z => W.tp.s_some hD z.symm
  have nD3 : D ≠ sy := fun z => by obtain ⟨_, q1, _⟩ := W.sy.is; exact ne_of_none q1 hD z.symm
  have nD4 : D ≠ va := fun z => by obtain ⟨_, q1, _⟩ := W.va.is; exact ne_of_none q1 hD z.symm
  have i1 : ∀ {a : Addr}, D ≠ a → a ∉ [D] := fun h z => by rcases List.mem_cons.mp z with z | z; exact h z.symm; cases z
  refine lb_range (fun j H2 => ∃ vs ts, H2 D = some (.lst vs) ∧ Ats H2 vs ts ∧ ts.length = j ∧ (∀ u ∈ ts, Gen zs vars d u) ∧ Kp [D, t] B H2 ∧ Dw H2 t sc sy va ns zs vars)
    ⟨[], [], upd_same, .nil, rfl, (fun u hu => by cases hu), Kp.new hD, W.nil (Kp.new hD)⟩ (fun j H2 hj h2 => ?_) (fun H2 h2 => ?_)
  · obtain ⟨vs, ts, eD, aD, lD, gD, kD, W2⟩ := h2
    show wipe (List.set (wipe σ [i]) i (some (.int (0 + (j : Nat))))) [i] = wipe σ [i] ∧ _
    refine ⟨by show ((σ.set i none).set i _).set i none = σ.set i none; rw [List.set_set, List.set_set], ?_⟩
    refine hte j H2 _ ⟨d, hd0, t, sc, sy, va, ns, zs, vars, rfl, W2.tp, W2.sy, z1, z2, W2.va, v2, fun H4 v tm k4 T4 a4 g4 => ?_⟩
    have W4 := W2.tape k4 T4
    have eD4 := kept_at k4 nD1 eD
    have kd : Kp [D] H4 (upd H4 D (.lst (vs ++ [v]))) := Kp.put (by simp)
    refine ⟨vs, eD4, smallL (by rw [aD.len, lD]; omega), vs ++ [v], ts ++ [tm], upd_same, ?_, by rw [List.length_append, lD]; rfl, fun u hu => ?_, ?_, ?_⟩
    · exact kd.ats (no_tup1 eD4) ((aD.keep (W2.tp.keepT k4)).append (.one a4))
    · rcases List.mem_append.mp hu with hu | hu
      · exact gD u hu
      · rcases List.mem_cons.mp hu with rfl | hu
        · exact g4
        · cases hu
    · exact (kD.trans (k4.mono fun b hb => List.mem_cons_of_mem _ hb)).trans (Kp.put (by simp))
    · exact ⟨T4.keep kd (i1 nD1) (i1 nD2), W4.sy.keep kd (i1 nD3) (no_tup1 eD4), W4.va.keep kd (i1 nD4) (no_tup1 eD4)⟩
  · obtain ⟨vs, ts, eD, aD, lD, gD, kD, W2⟩ := h2
    exact hd H2 vs ts kD eD aD lD gD W2
end Lw
namespace Lw
open PySem PySem.Spec L2
theorem df_mk {K : PySem.W.Frag} {h : Heap} {mg : Str → Option Value} {x : Str} {st : Stmt} {ps : List Str} (X : K.In h) (G : h.Ns PySem.mainGlobals mg) {f : Addr} {oc : Value} {od an : Option Addr} {osl : Array (Option Value)} {kV doc pm cdv ct : Value}
    (a : PySem.W.nsIn K PySem.mainGlobals x = some (some (.ref f))) (l : K.lookup f = some ⟨oc, od, .func (PySem.W.fnOf x x (defArgs st) (defBody st) (defScope st) .none kV doc pm an cdv ct), osl⟩) (c : PySem.W.codeIn K cdv x = true) (kp : PySem.W.keepIn K (.ref f) = true)
    (b : ∀ (kV doc pm : Value) (an : Option Addr) (cdv ct : Value) (us : List Value), us.length = ps.length → bindArgs (PySem.W.fnOf x x (defArgs st) (defBody st) (defScope st) .none kV doc pm an cdv ct) ⟨us, []⟩ = pure (ps.zip us)) : Df K mg x st ps := by
  have F := fun_mk (st := st) l c kp
  exact ⟨f, _, F, PySem.W.mg_of X G a, F.binds b⟩
end Lw
namespace Lw
open PySem PySem.Spec L2
/-- [draw(..) for k in range(n)]: whatever each turn does, it draws and hands back a term that G holds of -/
theorem lb_gen {t sc sy : Addr} {ns : List Int} {zs : List (Str × Int)} {σ : St} {i : Nat} {n : Nat} {B : Hp} {D : Addr} {Qd : Hp → Prop} {te : TE} {α : Type} {AtR : Hp → List V → List α → Prop} (hD : B D = none) (T : TapeAt B t sc ns) (S : SymsAt B sy zs) (hn : n ≤ 100000)
    (G : α → Prop) (r0 : ∀ H, AtR H [] []) (rl : ∀ H vs ts, AtR H vs ts → vs.length = ts.length) (rk : ∀ H H' vs ts, KeepT H H' → AtR H vs ts → AtR H' vs ts)
    (hte : ∀ j H' (Q : VK), TapeAt H' t sc ns → SymsAt H' sy zs → (∀ H2 v a, Kp [t] H' H2 → TapeAt H2 t sc ns → (∀ vs ts, AtR H2 vs ts → AtR H2 (vs ++ [v]) (ts ++ [a])) → G a → Q v H2) → te (((wipe σ [i]).set i (some (.int (0 + (j : Nat)))))) H' Q)
    (hd : ∀ H' vs ts, Kp [D, t] B H' → H' D = some (.lst vs) → AtR H' vs ts → ts.length = n → (∀ u ∈ ts, G u) → TapeAt H' t sc ns → SymsAt H' sy zs → Qd H') :
    LcB (Itr 0 n) (gName i) tYes te [i] σ B D Qd := by
  have nD1 : D ≠ t := fun z => T.t_some hD z.symm
  have nD2 : D ≠ sc := fun z => T.s_some hD z.symm
  have nD3 : D ≠ sy := fun z => by obtain ⟨_, q1, _⟩ := S.is; exact ne_of_none q1 hD z.symm
  have i1 : ∀ {a : Addr}, D ≠ a → a ∉ [D] := fun h z => by rcases List.mem_cons.mp z with z | z; exact h z.symm; cases z
  refine lb_range (fun j H2 => ∃ vs ts, H2 D = some (.lst vs) ∧ AtR H2 vs ts ∧ ts.length = j ∧ (∀ u ∈ ts, G u) ∧ Kp [D, t] B H2 ∧ TapeAt H2 t sc ns ∧ SymsAt H2 sy zs)
    ⟨[], [], upd_same, r0 _, rfl, (fun u hu => by cases hu), Kp.new hD, T.nil (Kp.new hD), S.keep (l := []) (Kp.new hD) (by simp) (by simp)⟩ (fun j H2 hj h2 => ?_) (fun H2 h2 => ?_)
  · obtain ⟨vs, ts, eD, aD, lD, gD, kD, T2, S2⟩ := h2
    show wipe (List.set (wipe σ [i]) i (some (.int (0 + (j : Nat))))) [i] = wipe σ [i] ∧ _
    refine ⟨by show ((σ.set i none).set i _).set i none = σ.set i none; rw [List.set_set, List.set_set], ?_⟩
    refine hte j H2 _ T2 S2 (fun H4 v tm k4 T4 a4 g4 => ?_)
    have S4 := S2.tape T2 k4 (S2.ne T2)
    have eD4 := kept_at k4 nD1 eD
    have kd : Kp [D] H4 (upd H4 D (.lst (vs ++ [v]))) := Kp.put (by simp)
    refine ⟨vs, eD4, smallL (by rw [rl _ _ _ aD, lD]; omega), vs ++ [v], ts ++ [tm], upd_same, ?_, by rw [List.length_append, lD]; rfl, fun u hu => ?_, ?_, ?_, ?_⟩
    · exact rk _ _ _ _ (kd.keepT (no_tup1 eD4)) (a4 _ _ (rk _ _ _ _ (T2.keepT k4) aD))
    · rcases List.mem_append.mp hu with hu | hu
      · exact gD u hu
      · rcases List.mem_cons.mp hu with rfl | hu
        · exact g4
        · cases hu
    · exact (kD.trans (k4.mono fun b hb => List.mem_cons_of_mem _ hb)).trans (Kp.put (by simp))
    · exact T4.keep kd (i1 nD1) (i1 nD2)
    · exact S4.keep kd (i1 nD3) (no_tup1 eD4)
  · obtain ⟨vs, ts, eD, aD, lD, gD, kD, T2, S2⟩ := h2
    exact hd H2 vs ts kD eD aD lD gD T2 S2
end Lw

set_option maxRecDepth 100000
set_option maxHeartbeats 4000000
/-! repr and == of nested data -/
namespace Lw
open PySem PySem.Spec PyProof.Rows L2
/-- data whose repr fits -/
structure Good (d : PyData) : Prop where
  can : d.canLay0 = true
  dep : d.depth ≤ 62
  sh : d.showable = true
  ls : d.leavesShort 13 = true
  wt : d.weight ≤ 1000000
theorem Good.shaped {d : PyData} (h : Good d) : SeqAt.shaped d = true := by
  unfold SeqAt.shaped
  rw [h.can, decide_eq_true (Nat.le_trans h.dep (by decide))]
  rfl
theorem Good.fits {d : PyData} (h : Good d) : d.shown.length ≤ sizeLine := PyData.shown_fits (by decide) (by decide) h.ls (Nat.le_trans h.wt (by decide))
def rReprD (K : PySem.W.Frag) : List V → Hp → VK → Prop := fun xs H Q => ∃ x d, xs = [x] ∧ Dp K H x d ∧ Good d ∧ ((∃ a, x = .ref a) ∨ ∃ i, x = .int i) ∧ Q (.str d.shown) H
theorem c_reprD {X : Cx} (hg : X.A.guards = some []) (hu : X.A.units + 100 < cLine) : CallR X (.builtin "repr") (rReprD X.K) := by
  intro pins s σ H xs us Q I r h
  obtain ⟨x, d, rfl, hd, g, hx, q⟩ := h
  obtain ⟨u, rfl, rx⟩ := vals1 r
  rcases hx with ⟨a, rfl⟩ | ⟨i, rfl⟩
  · cases rx
    obtain ⟨as, rd⟩ := Dp.reads I d (.ref a) (.ref a) hd rfl
    refine repr_of_reads' rd g.sh (PyData.noDict_hsm (PyData.hasDict_of_canLay d g.can)) hg (by have := g.dep; omega) (fun _ _ e => e) (fun h2 t tk hk => ?_) g.fits
    exact ⟨.str d.shown, H, I.kept hk, ⟨t, rfl⟩, q⟩
  · obtain ⟨t, rfl⟩ := rx
    cases hd
    have e : (PyData.int i).showable = true := g.sh
    have z : i.natAbs.log2 < 1920 := of_decide_eq_true e
    exact PySem.P.repr_of_int z ⟨.str _, H, I.tok _, ⟨_, rfl⟩, q⟩
theorem d_reprD {K : PySem.W.Frag} {H : Hp} {Q : VK} {x : V} {d : PyData} (h : Dp K H x d) (g : Good d) (hx : (∃ a, x = .ref a) ∨ ∃ i, x = .int i) (q : Q (.str d.shown) H) : rReprD K [x] H Q := ⟨x, d, rfl, h, g, hx, q⟩
theorem d_eqD {K : PySem.W.Frag} {H : Hp} {Q : VK} {x y : V} {d e : PyData} (h1 : Dp K H x d) (h2 : Dp K H y e) (g1 : Good d) (g2 : Good e) (q : Q (.bl (PyData.eqv d e)) H) : rEqD K x y H Q := ⟨d, e, h1, h2, g1.shaped, g2.shaped, q⟩
theorem RoomG.u100 {k : Nat} {A : Around} (r : RoomG k A) : A.units + 100 < cLine := by have := r.room.un; omega
theorem RoomG.u64 {k : Nat} {A : Around} (r : RoomG k A) : A.units + 64 < cLine := by have := r.room.un; omega
/-- told and due are borne as one and the same data: an int, or tuples -/
def Tupl (H : Hp) (x : V) : Prop := ∃ a xs, x = .ref a ∧ H a = some (.tup xs)
def spAlikeD (K : PySem.W.Frag) : Sp := fun vs H Q _ => ∃ (x y : V) (d : PyData), vs = [x, y] ∧ Dp K H x d ∧ Dp K H y d ∧ Good d ∧ ((∃ i, x = .int i ∧ y = .int i) ∨ (Tupl H x ∧ Tupl H y)) ∧ ∀ H', Kp [] H H' → Q (.bl true) H'
theorem Dp.keep {K : PySem.W.Frag} {H H' : Hp} (kt : ∀ a xs, SqT K H a xs → SqT K H' a xs) (kl : ∀ a xs, SqL K H a xs → SqL K H' a xs) : ∀ (d : PyData) (v : V), Dp K H v d → Dp K H' v d := by
  intro d v h
  exact Dp.rec (motive_1 := fun v d _ => Dp K H' v d) (motive_2 := fun vs ds _ => DpAll K H' vs ds) .non (fun b => .bl b) (fun i => .int i) (fun x => .str x) (fun a _ ih => .lst (kl _ _ a) ih) (fun a _ ih => .tup (kt _ _ a) ih) .nil (fun _ _ a b => .cons a b) h

/-! ### terms as data -/
mutual
def Tm.dat : Tm → PyData
  | .var i => .int i
  | .app n ts => .tuple (.str n :: Tm.dats ts)
def Tm.dats : List Tm → List PyData
  | [] => []
  | t :: r => t.dat :: Tm.dats r
end
theorem Tm.dat_var (i : Int) : (Tm.var i).dat = .int i := by rw [Tm.dat]
theorem Tm.dat_app (n : Str) (ts : List Tm) : (Tm.app n ts).dat = .tuple (.str n :: Tm.dats ts) := by rw [Tm.dat]
theorem Tm.dats_nil : Tm.dats [] = [] := by rw [Tm.dats]
theorem Tm.dats_cons (t : Tm) (r : List Tm) : Tm.dats (t :: r) = t.dat :: Tm.dats r := by rw [Tm.dats]
theorem Tm.dats_map : ∀ ts : List Tm, Tm.dats ts = ts.map Tm.dat
  | [] => by rw [Tm.dats_nil]; rfl
  | t :: r => by rw [Tm.dats_cons, Tm.dats_map r]; rfl
/-- small ints, short texts -/
def TxtOk (z : Str) : Prop := z.cps.toList.length ≤ 20 ∧ ∀ c ∈ z.cps.toList, 32 ≤ c ∧ c < 127 ∧ c ≠ 39 ∧ c ≠ 92
mutual
def Tm.Nice : Tm → Prop
  | .var i => 0 ≤ i ∧ i < 1000000000000
  | .app n ts => TxtOk n ∧ Tm.Nices ts
def Tm.Nices : List Tm → Prop
  | [] => True
  | t :: r => t.Nice ∧ Tm.Nices r
end
theorem Tm.nice_var (i : Int) : (Tm.var i).Nice ↔ 0 ≤ i ∧ i < 1000000000000 := by rw [Tm.Nice]
theorem Tm.nice_app (n : Str) (ts : List Tm) : (Tm.app n ts).Nice ↔ TxtOk n ∧ Tm.Nices ts := by rw [Tm.Nice]
theorem Tm.nices_nil : Tm.Nices [] := by rw [Tm.Nices]; trivial
theorem Tm.nices_cons (t : Tm) (r : List Tm) : Tm.Nices (t :: r) ↔ t.Nice ∧ Tm.Nices r := by rw [Tm.Nices]
theorem Tm.nices_iff : ∀ ts : List Tm, Tm.Nices ts ↔ ∀ t ∈ ts, t.Nice
  | [] => ⟨fun _ t h => (List.not_mem_nil h).elim, fun _ => Tm.nices_nil⟩
  | t :: r => by
    rw [Tm.nices_cons, Tm.nices_iff r]
    exact ⟨fun h u hu => (List.mem_cons.mp hu).elim (fun e => e ▸ h.1) (fun hu => h.2 u hu), fun h => ⟨h t List.mem_cons_self, fun u hu => h u (List.mem_cons_of_mem _ hu)⟩⟩
theorem txt_of_name {z : Str} (h : NameOk z) : TxtOk z := ⟨by have := h.le; omega, fun c hc => by
  have := h.all c hc
  unfold signC at this
  omega⟩
theorem txt_can {z : Str} (h : TxtOk z) : (PyData.str z).canLay0 = true := by
  show PyData.strOk z = true
  unfold PyData.strOk
  rw [Array.all_eq_true']
  intro c hc
  have := h.2 c (Array.mem_toList_iff.mpr hc)
  exact decide_eq_true (by omega)
theorem txt_short {z : Str} (h : TxtOk z) : (PyData.str z).leavesShort 13 = true := by
  show (z.cps.toList.all fun c => decide (c < 16 ^ 8)) = true
  rw [List.all_eq_true]
  intro c hc
  have := h.2 c hc
  exact decide_eq_true (by omega)
theorem txt_weight {z : Str} (h : TxtOk z) : (PyData.str z).weight ≤ 20 := by
  show z.cps.size ≤ 20
  rw [← Array.length_toList]
  exact h.1
theorem int_short {i : Int} (h0 : 0 ≤ i) (h : i < 1000000000000) : (PyData.int i).leavesShort 13 = true := by
  show decide ((PyData.int i).shown.length ≤ 13) = true
  refine decide_eq_true ?_
  show (Str.ofString (toString i)).length ≤ 13
  exact Nat.le_trans (toString_length_le h0 (k := 12) (by decide) (by omega)) (by decide)
theorem int_weight {i : Int} (h0 : 0 ≤ i) (h : i < 1000000000000) : (PyData.int i).weight ≤ 40 := by
  show (if (i == 0) = true then 0 else i.natAbs.log2 + 1) ≤ 40
  split
  · omega
  · rename_i z
    have hz : i.natAbs ≠ 0 := fun e => z (by rw [show i = 0 by omega]; rfl)
    have := (Nat.log2_lt hz).mpr (show i.natAbs < 2 ^ 40 by omega)
    omega
theorem int_showable {i : Int} (h0 : 0 ≤ i) (h : i < 1000000000000) : (PyData.int i).showable = true := decide_eq_true (log_small (by omega))
mutual
theorem Tm.dat_can : ∀ t : Tm, t.Nice → t.dat.canLay0 = true
  | .var i, _ => by rw [Tm.dat_var]; rfl
  | .app n ts, h => by
    rw [Tm.nice_app] at h
    rw [Tm.dat_app]
    show PyData.canLayAll0 (.str n :: Tm.dats ts) = true
    show ((PyData.str n).canLay0 && PyData.canLayAll0 (Tm.dats ts)) = true
    rw [txt_can h.1, Tm.dats_can ts h.2]
    rfl
theorem Tm.dats_can : ∀ ts : List Tm, Tm.Nices ts → PyData.canLayAll0 (Tm.dats ts) = true
  | [], _ => by rw [Tm.dats_nil]; rfl
  | t :: r, h => by
    rw [Tm.nices_cons] at h
    rw [Tm.dats_cons]
    show (t.dat.canLay0 && PyData.canLayAll0 (Tm.dats r)) = true
    rw [Tm.dat_can t h.1, Tm.dats_can r h.2]
    rfl
end
mutual
theorem Tm.dat_sh : ∀ t : Tm, t.Nice → t.dat.showable = true
  | .var i, h => by rw [Tm.nice_var] at h; rw [Tm.dat_var]; exact int_showable h.1 h.2
  | .app n ts, h => by
    rw [Tm.nice_app] at h
    rw [Tm.dat_app]
    show ((PyData.str n).showable && PyData.showableAll (Tm.dats ts)) = true
    rw [Tm.dats_sh ts h.2]
    rfl
theorem Tm.dats_sh : ∀ ts : List Tm, Tm.Nices ts → PyData.showableAll (Tm.dats ts) = true
  | [], _ => by rw [Tm.dats_nil]; rfl
  | t :: r, h => by
    rw [Tm.nices_cons] at h
    rw [Tm.dats_cons]
    show (t.dat.showable && PyData.showableAll (Tm.dats r)) = true
    rw [Tm.dat_sh t h.1, Tm.dats_sh r h.2]
    rfl
end
mutual
theorem Tm.dat_ls : ∀ t : Tm, t.Nice → t.dat.leavesShort 13 = true
  | .var i, h => by rw [Tm.nice_var] at h; rw [Tm.dat_var]; exact int_short h.1 h.2
  | .app n ts, h => by
    rw [Tm.nice_app] at h
    rw [Tm.dat_app]
    show ((PyData.str n).leavesShort 13 && PyData.leavesShortAll 13 (Tm.dats ts)) = true
    rw [txt_short h.1, Tm.dats_ls ts h.2]
    rfl
theorem Tm.dats_ls : ∀ ts : List Tm, Tm.Nices ts → PyData.leavesShortAll 13 (Tm.dats ts) = true
  | [], _ => by rw [Tm.dats_nil]; rfl
  | t :: r, h => by
    rw [Tm.nices_cons] at h
    rw [Tm.dats_cons]
    show (t.dat.leavesShort 13 && PyData.leavesShortAll 13 (Tm.dats r)) = true
    rw [Tm.dat_ls t h.1, Tm.dats_ls r h.2]
    rfl
end
mutual
theorem Tm.dat_wt : ∀ t : Tm, t.Nice → t.dat.weight + 1 ≤ 42 * t.size
  | .var i, h => by rw [Tm.nice_var] at h; rw [Tm.dat_var, Tm.size_var]; have := int_weight h.1 h.2; omega
  | .app n ts, h => by
    rw [Tm.nice_app] at h
    rw [Tm.dat_app, Tm.size_app]
    show (PyData.str n).weight + 1 + PyData.weightAll (Tm.dats ts) + 1 ≤ _
    have h1 := txt_weight h.1
    have h2 := Tm.dats_wt ts h.2
    omega
theorem Tm.dats_wt : ∀ ts : List Tm, Tm.Nices ts → PyData.weightAll (Tm.dats ts) ≤ 42 * Tm.sizes ts
  | [], _ => by rw [Tm.dats_nil, Tm.sizes_nil]; exact Nat.le_refl 0
  | t :: r, h => by
    rw [Tm.nices_cons] at h
    rw [Tm.dats_cons, Tm.sizes_cons]
    show t.dat.weight + 1 + PyData.weightAll (Tm.dats r) ≤ _
    have h1 := Tm.dat_wt t h.1
    have h2 := Tm.dats_wt r h.2
    omega
end
mutual
theorem Tm.dat_dep : ∀ t : Tm, t.dat.depth ≤ t.depth
  | .var i => by rw [Tm.dat_var, Tm.depth_var]; simp only [PyData.depth]; omega
  | .app n ts => by
    rw [Tm.dat_app, Tm.depth_app]
    have := Tm.dats_dep ts
    simp only [PyData.depth, PyData.depthAll]
    omega
theorem Tm.dats_dep : ∀ ts : List Tm, PyData.depthAll (Tm.dats ts) ≤ Tm.depths ts
  | [] => by rw [Tm.dats_nil, Tm.depths_nil]; exact Nat.le_refl 0
  | t :: r => by
    rw [Tm.dats_cons, Tm.depths_cons]
    have h1 := Tm.dat_dep t
    have h2 := Tm.dats_dep r
    simp only [PyData.depthAll]
    omega
end

/-! ### data that fits, by bounds -/
structure Gd (b w : Nat) (d : PyData) : Prop where
  can : d.canLay0 = true
  dep : d.depth ≤ b
  sh : d.showable = true
  ls : d.leavesShort 13 = true
  wt : d.weight + 1 ≤ w
theorem Gd.good {b w : Nat} {d : PyData} (g : Gd b w d) (hb : b ≤ 62) (hw : w ≤ 1000000) : Good d := ⟨g.can, Nat.le_trans g.dep hb, g.sh, g.ls, by have := g.wt; omega⟩
theorem Gd.mono {b w b' w' : Nat} {d : PyData} (g : Gd b w d) (hb : b ≤ b') (hw : w ≤ w') : Gd b' w' d := ⟨g.can, Nat.le_trans g.dep hb, g.sh, g.ls, Nat.le_trans g.wt hw⟩
theorem Gd.tm {t : Tm} {b s : Nat} (h : t.Nice) (hb : t.depth ≤ b) (hs : t.size ≤ s) : Gd b (42 * s) t.dat :=
  ⟨Tm.dat_can t h, Nat.le_trans (Tm.dat_dep t) hb, Tm.dat_sh t h, Tm.dat_ls t h, by have := Tm.dat_wt t h; omega⟩
theorem Gd.int {i : Int} (h0 : 0 ≤ i) (h : i < 1000000000000) : Gd 0 42 (.int i) := ⟨rfl, Nat.le_refl _, int_showable h0 h, int_short h0 h, by have := int_weight h0 h; omega⟩
theorem Gd.str {z : Str} (h : TxtOk z) : Gd 0 42 (.str z) := ⟨txt_can h, Nat.le_refl _, rfl, txt_short h, by have := txt_weight h; omega⟩
theorem Gd.bool (b : Bool) : Gd 0 42 (.bool b) := by cases b <;> exact ⟨by decide, by decide, by decide, by decide, by decide⟩
theorem Gd.none : Gd 0 42 .none := ⟨by decide, by decide, by decide, by decide, by decide⟩
theorem gd_all {b w : Nat} : ∀ {ds : List PyData}, (∀ d ∈ ds, Gd b w d) → PyData.canLayAll0 ds = true ∧ PyData.depthAll ds ≤ b ∧ PyData.showableAll ds = true ∧ PyData.leavesShortAll 13 ds = true ∧ PyData.weightAll ds ≤ ds.length * w
  | [], _ => ⟨rfl, Nat.zero_le _, rfl, rfl, Nat.zero_le _⟩
  | d :: r, h => by
    obtain ⟨a1, a2, a3, a4, a5⟩ := gd_all (ds := r) fun x hx => h x (List.mem_cons_of_mem _ hx)
    have g := h d List.mem_cons_self
    refine ⟨?_, ?_, ?_, ?_, ?_⟩
    · show (d.canLay0 && PyData.canLayAll0 r) = true
      rw [g.can, a1]; rfl
    · simp only [PyData.depthAll]
      exact Nat.max_le.mpr ⟨g.dep, a2⟩
    · show (d.showable && PyData.showableAll r) = true
      rw [g.sh, a3]; rfl
    · show (d.leavesShort 13 && PyData.leavesShortAll 13 r) = true
      rw [g.ls, a4]; rfl
    · show d.weight + 1 + PyData.weightAll r ≤ _
      have := g.wt
      rw [List.length_cons, Nat.succ_mul]
      omega
theorem Gd.tup {b w b' w' : Nat} {ds : List PyData} (h : ∀ d ∈ ds, Gd b w d) (hb : b + 1 ≤ b') (hw : ds.length * w + 1 ≤ w') : Gd b' w' (.tuple ds) := by
  obtain ⟨a1, a2, a3, a4, a5⟩ := gd_all h
  refine ⟨a1, ?_, a3, a4, ?_⟩
  · simp only [PyData.depth]
    omega
  · show PyData.weightAll ds + 1 ≤ w'
    omega
/-! ### terms borne -/
theorem dp_tup {K : PySem.W.Frag} {H : Hp} {a : Addr} {xs : List V} {ds : List PyData} (h : H a = some (.tup xs)) (r : DpAll K H xs ds) : Dp K H (.ref a) (.tuple ds) := .tup (sqT h) r
theorem dpAll_of {α : Type} {K : PySem.W.Frag} {H : Hp} (f : α → PyData) : ∀ {vs : List V} {ts : List α}, vs.length = ts.length → (∀ (i : Nat) v t, vs[i]? = some v → ts[i]? = some t → Dp K H v (f t)) → DpAll K H vs (ts.map f)
  | [], [], _, _ => .nil
  | [], _ :: _, h, _ => by cases h
  | _ :: _, [], h, _ => by cases h
  | v :: vs, t :: ts, h, hi => .cons (hi 0 v t rfl rfl) (dpAll_of f (by simpa using h) fun i u w a b => hi (i + 1) u w (by simpa using a) (by simpa using b))
theorem At.dp {K : PySem.W.Frag} {H : Hp} {v : V} {t : Tm} (h : At H v t) : Dp K H v t.dat := by
  induction h with
  | var i => rw [Tm.dat_var]; exact .int i
  | app e hl _ ih =>
    rw [Tm.dat_app, Tm.dats_map]
    exact dp_tup e (.cons (.str _) (dpAll_of Tm.dat hl ih))
theorem Ats.dp {K : PySem.W.Frag} {H : Hp} {vs : List V} {ts : List Tm} (h : Ats H vs ts) : DpAll K H vs (ts.map Tm.dat) := dpAll_of Tm.dat h.len fun i v t a b => (h.at' i v t a b).dp
theorem At.int_or {H : Hp} {x y : V} {t : Tm} (h1 : At H x t) (h2 : At H y t) : (∃ i, x = .int i ∧ y = .int i) ∨ (Tupl H x ∧ Tupl H y) := by
  cases h1 with
  | var i => cases h2 with | var i => exact .inl ⟨i, rfl, rfl⟩
  | app e1 _ _ => cases h2 with | app e2 _ _ => exact .inr ⟨⟨_, _, rfl, e1⟩, ⟨_, _, rfl, e2⟩⟩
/-- two terms that are alike, for _law_alike -/
theorem d_alikeT {K : PySem.W.Frag} {H : Hp} {Q : VK} {E : XK} {x y : V} {t : Tm} (h1 : At H x t) (h2 : At H y t) (hn : t.Nice) (hd : t.depth ≤ 62) (hs : t.size ≤ 20000) (q : ∀ H', Kp [] H H' → Q (.bl true) H') : spAlikeD K [x, y] H Q E :=
  ⟨x, y, t.dat, rfl, h1.dp, h2.dp, (Gd.tm hn hd hs).good (Nat.le_refl _) (by decide), h1.int_or h2, q⟩
theorem d_alikeTs {K : PySem.W.Frag} {H : Hp} {Q : VK} {E : XK} {a b : Addr} {xs ys : List V} {ts : List Tm} {s : Nat} (e1 : H a = some (.tup xs)) (e2 : H b = some (.tup ys)) (h1 : Ats H xs ts) (h2 : Ats H ys ts) (hn : ∀ t ∈ ts, t.Nice) (hd : ∀ t ∈ ts, t.depth ≤ 61) (hs : ∀ t ∈ ts, t.size ≤ s) (hw : ts.length * (42 * s) + 1 ≤ 1000000)
    (q : ∀ H', Kp [] H H' → Q (.bl true) H') : spAlikeD K [.ref a, .ref b] H Q E :=
  ⟨_, _, .tuple (ts.map Tm.dat), rfl, dp_tup e1 h1.dp, dp_tup e2 h2.dp, (Gd.tup (b := 61) (w := 42 * s) (b' := 62) (w' := 1000000) (fun d hd2 => by
    obtain ⟨t, ht, rfl⟩ := List.mem_map.mp hd2
    exact Gd.tm (hn t ht) (hd t ht) (hs t ht)) (Nat.le_refl _) (by rw [List.length_map]; exact hw)).good (Nat.le_refl _) (Nat.le_refl _), .inr ⟨⟨_, _, rfl, e1⟩, ⟨_, _, rfl, e2⟩⟩, q⟩
/-- drawn terms are nice -/
theorem Gen.nice {zs : List (Str × Int)} {vars : List Tm} (hz : ∀ z ∈ zs, TxtOk z.1) (hv : ∀ t ∈ vars, t.Nice) {d : Nat} {t : Tm} (h : Gen zs vars d t) : t.Nice := by
  induction h with
  | var h => exact hv _ h
  | leaf h => exact (Tm.nice_app _ _).mpr ⟨hz _ h, Tm.nices_nil⟩
  | app h hl hs ih => exact (Tm.nice_app _ _).mpr ⟨hz _ h, (Tm.nices_iff _).mpr ih⟩
end Lw

set_option maxRecDepth 100000
set_option maxHeartbeats 4000000
/-! repr of terms tells them apart; == of terms; first occurrences -/
namespace Lw
open PySem PySem.Spec PyProof.Rows L2
/-! ### the signs of a repr -/
theorem char_plain : ∀ c : Nat, c < 127 → 32 ≤ c → c ≠ 39 → c ≠ 92 → Builtin.Str.reprChar 39 c = [c] := by decide +kernel
theorem fold_plain : ∀ (l : List Nat) (acc : Array Nat), (∀ c ∈ l, 32 ≤ c ∧ c < 127 ∧ c ≠ 39 ∧ c ≠ 92) → (l.foldl (fun out c => out ++ (Builtin.Str.reprChar 39 c).toArray) acc).toList = acc.toList ++ l
  | [], acc, _ => by rw [List.foldl_nil, List.append_nil]
  | c :: r, acc, h => by
    obtain ⟨h1, h2, h3, h4⟩ := h c List.mem_cons_self
    rw [List.foldl_cons, fold_plain r _ fun d hd => h d (List.mem_cons_of_mem _ hd), char_plain c h2 h1 h3 h4, Array.toList_append, List.append_assoc]
    rfl
theorem quote_plain {z : Str} (h : TxtOk z) : reprQuote z = 39 := by
  unfold reprQuote
  rw [if_neg]
  intro e
  have e1 : z.cps.contains 39 = true := by
    cases q : z.cps.contains 39 with
    | true => rfl
    | false => rw [q] at e; cases e
  have := h.2 39 (Array.mem_toList_iff.mpr (Array.contains_iff_mem.mp e1))
  omega
theorem repr_plain {z : Str} (h : TxtOk z) : (reprText z).cps.toList = 39 :: (z.cps.toList ++ [39]) := by
  unfold reprText
  rw [quote_plain h]
  show ((z.cps.foldl (fun out c => out ++ (Builtin.Str.reprChar 39 c).toArray) #[39]).push 39).toList = _
  rw [Array.toList_push, ← Array.foldl_toList, fold_plain _ _ h.2]
  rfl
mutual
def Tm.sh : Tm → List Nat
  | .var i => (Str.ofString (toString i)).cps.toList
  | .app n ts => 40 :: 39 :: (n.cps.toList ++ 39 :: (Tm.shs ts ++ if ts.isEmpty then [44, 41] else [41]))
def Tm.shs : List Tm → List Nat
  | [] => []
  | t :: r => 44 :: 32 :: (t.sh ++ Tm.shs r)
end
theorem Tm.sh_var (i : Int) : (Tm.var i).sh = (Str.ofString (toString i)).cps.toList := by rw [Tm.sh]
theorem Tm.sh_app (n : Str) (ts : List Tm) : (Tm.app n ts).sh = 40 :: 39 :: (n.cps.toList ++ 39 :: (Tm.shs ts ++ if ts.isEmpty then [44, 41] else [41])) := by rw [Tm.sh]
theorem Tm.shs_nil : Tm.shs [] = [] := by rw [Tm.shs]
theorem Tm.shs_cons (t : Tm) (r : List Tm) : Tm.shs (t :: r) = 44 :: 32 :: (t.sh ++ Tm.shs r) := by rw [Tm.shs]
def tails (l : List Str) : List Nat := l.flatMap fun y => 44 :: 32 :: y.cps.toList
theorem join_codes : ∀ (l : List Str) (x : Str), (Str.join ", " (x :: l)).cps.toList = x.cps.toList ++ tails l
  | [], x => by show x.cps.toList = x.cps.toList ++ []; rw [List.append_nil]
  | y :: r, x => by
    show (x ++ (", " : Str) ++ Str.join ", " (y :: r)).cps.toList = _
    rw [str_app, str_app, join_codes r y, List.append_assoc]
    rfl
mutual
theorem Tm.shown_codes : ∀ t : Tm, t.Nice → t.dat.shown.cps.toList = t.sh
  | .var i, h => by rw [Tm.dat_var, Tm.sh_var]; rfl
  | .app n ts, h => by
    rw [Tm.nice_app] at h
    rw [Tm.dat_app, Tm.sh_app]
    show (("(" : Str) ++ Str.join ", " (reprText n :: PyData.shownAll (Tm.dats ts)) ++ (if (reprText n :: PyData.shownAll (Tm.dats ts)).length == 1 then ",)" else ")" : String)).cps.toList = _
    rw [str_app, str_app, join_codes, repr_plain h.1, Tm.showns_codes ts h.2]
    cases ts with
    | nil =>
      rw [Tm.shs_nil, Tm.dats_nil]
      show 40 :: 39 :: (n.cps.toList ++ [39] ++ [] ++ [44, 41]) = 40 :: 39 :: (n.cps.toList ++ 39 :: ([] ++ [44, 41]))
      simp
    | cons t r =>
      rw [Tm.dats_cons]
      have e : ((reprText n :: PyData.shownAll (t.dat :: Tm.dats r)).length == 1) = false := by
        show ((PyData.shownAll (Tm.dats r)).length + 1 + 1 == 1) = false
        exact beq_false_of_ne (by omega)
      rw [e]
      show 40 :: 39 :: (n.cps.toList ++ [39] ++ Tm.shs (t :: r) ++ [41]) = 40 :: 39 :: (n.cps.toList ++ 39 :: (Tm.shs (t :: r) ++ [41]))
      simp
theorem Tm.showns_codes : ∀ ts : List Tm, Tm.Nices ts → tails (PyData.shownAll (Tm.dats ts)) = Tm.shs ts
  | [], _ => by rw [Tm.dats_nil, Tm.shs_nil]; rfl
  | t :: r, h => by
    rw [Tm.nices_cons] at h
    rw [Tm.dats_cons, Tm.shs_cons]
    show 44 :: 32 :: (t.dat.shown.cps.toList) ++ tails (PyData.shownAll (Tm.dats r)) = _
    rw [Tm.shown_codes t h.1, Tm.showns_codes r h.2]
    rfl
end
def Digs (l : List Nat) : Prop := ∀ c ∈ l, 48 ≤ c ∧ c ≤ 57
def Stops (r : List Nat) : Prop := ∀ c s, r = c :: s → c < 48 ∨ 57 < c
theorem num_codes {i : Int} (h : 0 ≤ i) : Digs (Str.ofString (toString i)).cps.toList ∧ (Str.ofString (toString i)).cps.toList ≠ [] := by
  obtain ⟨m, rfl⟩ := Int.eq_ofNat_of_zero_le h
  rw [PySem.W.KIN.signs_num]
  refine ⟨fun c hc => ?_, fun e => ?_⟩
  · obtain ⟨ch, hch, e⟩ := List.mem_map.mp hc
    have r := digit_range (Nat.isDigit_of_mem_toDigits (by decide) (by decide) hch)
    rw [← e]
    exact r
  · have h := toDigits_len_ge 10 m
    rw [List.map_eq_nil_iff.mp e] at h
    exact absurd h (by decide)
theorem num_inj {i j : Int} (hi : 0 ≤ i) (hj : 0 ≤ j) (e : (Str.ofString (toString i)).cps.toList = (Str.ofString (toString j)).cps.toList) : i = j := by
  obtain ⟨m, rfl⟩ := Int.eq_ofNat_of_zero_le hi
  obtain ⟨n, rfl⟩ := Int.eq_ofNat_of_zero_le hj
  rw [PySem.W.KIN.signs_num, PySem.W.KIN.signs_num] at e
  have h1 := PySem.W.KIN.val_back m
  have h2 := PySem.W.KIN.val_back n
  rw [e, h2] at h1
  rw [h1]
theorem digs_split : ∀ {a b r s : List Nat}, Digs a → Digs b → Stops r → Stops s → a ++ r = b ++ s → a = b ∧ r = s
  | [], [], r, s, _, _, _, _, e => ⟨rfl, e⟩
  | [], y :: b, r, s, _, hb, hr, _, e => by
    have h1 := hb y List.mem_cons_self
    have h2 := hr y (b ++ s) e
    omega
  | x :: a, [], r, s, ha, _, _, hs, e => by
    have h1 := ha x List.mem_cons_self
    have h2 := hs x (a ++ r) e.symm
    omega
  | x :: a, y :: b, r, s, ha, hb, hr, hs, e => by
    injection e with e1 e2
    obtain ⟨h1, h2⟩ := digs_split (fun c hc => ha c (List.mem_cons_of_mem _ hc)) (fun c hc => hb c (List.mem_cons_of_mem _ hc)) hr hs e2
    exact ⟨by rw [e1, h1], h2⟩
theorem quote_split : ∀ {a b r s : List Nat}, (∀ c ∈ a, c ≠ 39) → (∀ c ∈ b, c ≠ 39) → a ++ 39 :: r = b ++ 39 :: s → a = b ∧ r = s
  | [], [], r, s, _, _, e => by injection e with _ e; exact ⟨rfl, e⟩
  | [], y :: b, r, s, _, hb, e => by injection e with e _; exact absurd e.symm (hb y List.mem_cons_self)
  | x :: a, [], r, s, ha, _, e => by injection e with e _; exact absurd e (ha x List.mem_cons_self)
  | x :: a, y :: b, r, s, ha, hb, e => by
    injection e with e1 e2
    obtain ⟨h1, h2⟩ := quote_split (fun c hc => ha c (List.mem_cons_of_mem _ hc)) (fun c hc => hb c (List.mem_cons_of_mem _ hc)) e2
    exact ⟨by rw [e1, h1], h2⟩
theorem str_ext {a b : Str} (h : a.cps.toList = b.cps.toList) : a = b := by
  cases a; cases b
  congr 1
  exact Array.toList_inj.mp h
def NoArg (r : List Nat) : Prop := ∀ s, r ≠ 44 :: 32 :: s
theorem end_ok (e : Bool) (r : List Nat) : NoArg ((if e = true then [44, 41] else [41]) ++ r) ∧ Stops ((if e = true then [44, 41] else [41]) ++ r) := by
  cases e with
  | true => exact ⟨fun s h => by simp at h, fun c s h => by simp at h; omega⟩
  | false => exact ⟨fun s h => by simp at h, fun c s h => by simp at h; omega⟩
theorem shs_stops : ∀ (ts : List Tm) (r : List Nat), Stops r → Stops (Tm.shs ts ++ r)
  | [], r, h => by rw [Tm.shs_nil]; exact h
  | t :: ts, r, _ => by
    rw [Tm.shs_cons]
    intro c s e
    injection e with e _
    omega
mutual
theorem Tm.sh_inj : ∀ t u : Tm, t.Nice → u.Nice → ∀ r s : List Nat, Stops r → Stops s → t.sh ++ r = u.sh ++ s → t = u ∧ r = s
  | .var i, .var j, ht, hu, r, s, hr, hs, e => by
    rw [Tm.nice_var] at ht hu
    rw [Tm.sh_var, Tm.sh_var] at e
    obtain ⟨h1, h2⟩ := digs_split (num_codes ht.1).1 (num_codes hu.1).1 hr hs e
    exact ⟨by rw [num_inj ht.1 hu.1 h1], h2⟩
  | .var i, .app n us, ht, hu, r, s, hr, hs, e => by
    rw [Tm.nice_var] at ht
    rw [Tm.sh_var, Tm.sh_app] at e
    obtain ⟨d, ne⟩ := num_codes ht.1
    cases q : (Str.ofString (toString i)).cps.toList with
    | nil => exact absurd q ne
    | cons c l =>
      rw [q] at e d
      injection e with e _
      have := d c List.mem_cons_self
      omega
  | .app n ts, .var j, ht, hu, r, s, hr, hs, e => by
    rw [Tm.nice_var] at hu
    rw [Tm.sh_var, Tm.sh_app] at e
    obtain ⟨d, ne⟩ := num_codes hu.1
    cases q : (Str.ofString (toString j)).cps.toList with
    | nil => exact absurd q ne
    | cons c l =>
      rw [q] at e d
      injection e with e _
      have := d c List.mem_cons_self
      omega
  | .app n ts, .app m us, ht, hu, r, s, hr, hs, e => by
    rw [Tm.nice_app] at ht hu
    rw [Tm.sh_app, Tm.sh_app] at e
    have e : 40 :: 39 :: ((n.cps.toList ++ 39 :: (Tm.shs ts ++ if ts.isEmpty = true then [44, 41] else [41])) ++ r) = 40 :: 39 :: ((m.cps.toList ++ 39 :: (Tm.shs us ++ if us.isEmpty = true then [44, 41] else [41])) ++ s) := e
    injection e with _ e
    injection e with _ e
    rw [List.append_assoc, List.append_assoc] at e
    obtain ⟨h1, h2⟩ := quote_split (fun c hc => (ht.1.2 c hc).2.2.1) (fun c hc => (hu.1.2 c hc).2.2.1) e
    have h2 : (Tm.shs ts ++ if ts.isEmpty = true then [44, 41] else [41]) ++ r = (Tm.shs us ++ if us.isEmpty = true then [44, 41] else [41]) ++ s := h2
    rw [List.append_assoc, List.append_assoc] at h2
    obtain ⟨h3, h4⟩ := Tm.shs_inj ts us ht.2 hu.2 _ _ (end_ok _ _).1 (end_ok _ _).1 (end_ok _ _).2 (end_ok _ _).2 h2
    rw [h3] at h4
    exact ⟨by rw [str_ext h1, h3], List.append_cancel_left h4⟩
theorem Tm.shs_inj : ∀ ts us : List Tm, Tm.Nices ts → Tm.Nices us → ∀ r s : List Nat, NoArg r → NoArg s → Stops r → Stops s → Tm.shs ts ++ r = Tm.shs us ++ s → ts = us ∧ r = s
  | [], [], _, _, r, s, _, _, _, _, e => by rw [Tm.shs_nil] at e; exact ⟨rfl, e⟩
  | [], u :: us, _, _, r, s, hr, _, _, _, e => by
    rw [Tm.shs_nil, Tm.shs_cons] at e
    exact absurd e (hr _)
  | t :: ts, [], _, _, r, s, _, hs, _, _, e => by
    rw [Tm.shs_nil, Tm.shs_cons] at e
    exact absurd e.symm (hs _)
  | t :: ts, u :: us, ht, hu, r, s, hr, hs, sr, ss, e => by
    rw [Tm.nices_cons] at ht hu
    rw [Tm.shs_cons, Tm.shs_cons] at e
    have e : 44 :: 32 :: ((t.sh ++ Tm.shs ts) ++ r) = 44 :: 32 :: ((u.sh ++ Tm.shs us) ++ s) := e
    injection e with _ e
    injection e with _ e
    rw [List.append_assoc, List.append_assoc] at e
    obtain ⟨h1, h2⟩ := Tm.sh_inj t u ht.1 hu.1 _ _ (shs_stops _ _ sr) (shs_stops _ _ ss) e
    obtain ⟨h3, h4⟩ := Tm.shs_inj ts us ht.2 hu.2 r s hr hs sr ss h2
    exact ⟨by rw [h1, h3], h4⟩
end
theorem shown_inj {t u : Tm} (ht : t.Nice) (hu : u.Nice) (e : t.dat.shown = u.dat.shown) : t = u := by
  have h1 := Tm.shown_codes t ht
  have h2 := Tm.shown_codes u hu
  rw [e, h2] at h1
  have := Tm.sh_inj t u ht hu [] [] (fun c s e => by cases e) (fun c s e => by cases e) (by rw [h1])
  exact this.1
/-! ### == of terms -/
mutual
theorem Tm.eqv_eq : ∀ t u : Tm, PyData.eqv t.dat u.dat = true → t = u
  | .var i, .var j, e => by
    rw [Tm.dat_var, Tm.dat_var] at e
    have e : (i == j) = true := e
    rw [eq_of_beq e]
  | .var i, .app n us, e => by
    rw [Tm.dat_var, Tm.dat_app] at e
    cases e
  | .app n ts, .var j, e => by
    rw [Tm.dat_var, Tm.dat_app] at e
    cases e
  | .app n ts, .app m us, e => by
    rw [Tm.dat_app, Tm.dat_app] at e
    have e : ((n == m) && PyData.eqvAll (Tm.dats ts) (Tm.dats us)) = true := e
    rw [Bool.and_eq_true] at e
    rw [eq_of_beq e.1, Tm.eqvs_eq ts us e.2]
theorem Tm.eqvs_eq : ∀ ts us : List Tm, PyData.eqvAll (Tm.dats ts) (Tm.dats us) = true → ts = us
  | [], [], _ => rfl
  | [], u :: us, e => by rw [Tm.dats_nil, Tm.dats_cons] at e; cases e
  | t :: ts, [], e => by rw [Tm.dats_nil, Tm.dats_cons] at e; cases e
  | t :: ts, u :: us, e => by
    rw [Tm.dats_cons, Tm.dats_cons] at e
    have e : (PyData.eqv t.dat u.dat && PyData.eqvAll (Tm.dats ts) (Tm.dats us)) = true := e
    rw [Bool.and_eq_true] at e
    rw [Tm.eqv_eq t u e.1, Tm.eqvs_eq ts us e.2]
end
noncomputable instance : DecidableEq Tm := fun a b => Classical.propDecidable (a = b)
theorem any_eqv {ts : List Tm} {t : Tm} (ht : t.Nice) : ((ts.map Tm.dat).any fun z => PyData.eqv z t.dat) = decide (t ∈ ts) := by
  rw [Bool.eq_iff_iff, List.any_eq_true, decide_eq_true_eq]
  refine ⟨fun ⟨z, hz, e⟩ => ?_, fun h => ⟨t.dat, List.mem_map.mpr ⟨t, h, rfl⟩, PySem.SeqAt.eqv_refl _ (Tm.dat_can t ht)⟩⟩
  obtain ⟨u, hu, rfl⟩ := List.mem_map.mp hz
  rw [← Tm.eqv_eq u t e]
  exact hu
end Lw

set_option maxRecDepth 100000
set_option maxHeartbeats 4000000
/-! tuple(x) by what x collects; tuple(d), tuple(d.values()) -/
namespace Lw
open PySem PySem.Spec
open PyProof.Rows L2
section
variable {prog : Program} {w : World} {A : Around} {E : Value → Shared → Prop}
variable {s : Shared} {T : String} {r : Addr}
/-- what a collecting hands over: short enough, and good when laid as a tuple -/
def TupGood (Q : Value → Shared → Prop) (xs : List Value) (s' : Shared) : Prop :=
  xs.length ≤ sizeLine ∧ Q (.ref s'.heap.objs.size) { s' with heap := s'.heap.push { cls := .type "tuple", data := .seq xs.toArray } }
theorem new_by {Q₁ : Value → Shared → Prop} (hT : s.TypeIs (.ref r) T) (hn : (Value.type T == Value.type "tuple") = false) (hc : ∀ E', wpAny (model prog w) A.in1 (collect (.ref r)) (TupGood Q₁) E' s) :
    codeAny (model prog w) A (.call (.builtin "tuple.__new__") ⟨[.type "tuple", .ref r], []⟩) (wants Q₁ E) s := by
  have col : ∀ (Q' : List Value → Shared → Prop) (E' : Value → Shared → Prop), (∀ xs s', TupGood Q₁ xs s' → Q' xs s') → wpAny (model prog w) A.in1 (collect (.ref r)) Q' E' s := fun Q' E' h => wpAny_mono (hc E') h fun _ _ e => e
  have step2 : codeAny (model prog w) A (.builtin "tuple.__new__" ⟨[.type "tuple", .ref r], []⟩) (wants Q₁ E) s := by
    refine codeAny_builtin F.entry_tuple_new (?_ : wpAny _ (A.under _) _ _ _ s); rw [Around.under_plainId F.plain_tuple_new _]
    have f1 := sub_tuple_self; have f2 := init_tuple_lookup; have f3 := madeHere_tuple; have f4 := hn
    wp_walk using wpAny_typeOf hT, col _ _
    intro xs s' ⟨hl, hq⟩
    refine wpAny_bind (m := Builtin.Tuple.tupleExact xs.toArray) ?_
    unfold Builtin.Tuple.tupleExact; refine wpAny_newObj_type ?_ (by show xs.toArray.size ≤ sizeLine; rw [List.size_toArray]; exact hl)
    exact wpAny_pure hq
  exact codeAny_of_tree (wpAny_bind (m := checkBuiltinCall "tuple.__new__" ⟨[.type "tuple", .ref r], []⟩) (wpAny_of_eq (F.newCall_tuple_1 _) (wpAny_pure ⟨plainId_quiet F.plain_tuple_new _, step2⟩)))
theorem tuple_by {Q : Value → Shared → Prop} (hT : s.TypeIs (.ref r) T) (hn : (Value.type T == Value.type "tuple") = false) (hc : ∀ E', wpAny (model prog w) A.in1.in1 (collect (.ref r)) (TupGood Q) E' s) : wpAny (model prog w) A (call (.type "tuple") [.ref r]) Q E s := by
  let Q2 : Value → Shared → Prop := fun o t => t.TypeIs o "tuple" ∧ Q o t
  refine callType_codes (Q₁ := Q2) F.called_tuple (F.typeCall_tuple_1 _) F.entry_object_init (new_by hT hn fun E' => wpAny_mono (hc E') (fun xs t h => ⟨h.1, ⟨_, Heap.get?_push_size _ rfl, rfl⟩, h.2⟩) fun _ _ e => e) fun o t h => ⟨h.1, F.args_object_init_2 o _, ?_⟩
  exact object_init_meets F.called_tuple.init.lookup F.called_tuple.made (by decide) prog w A.in1 _ t ⟨h.1, rfl, h.2⟩
end
section
variable {X : Cx} {pins : List (Addr × Obj)} {σ : L2.St} {H : Hp} {s : Shared} {Q : VK}
/-- the tuple stands at the end of the heap -/
theorem tup_end {xs : List V} {us : List Value} (I : Inv X pins σ H s) (rv : Vals xs us) (hl : xs.length ≤ sizeLine) (q : ∀ p, H p = none → Q (.ref p) (upd H p (.tup xs))) : TupGood (EP X pins σ Q) us s := by
  refine ⟨by rw [← rv.length]; exact hl, ?_⟩
  have new : ∀ H', ObjOk X.prog X.w H' (s.heap.push { cls := .type "tuple", data := .seq us.toArray }) s.heap.objs.size (.tup xs) := fun H' => ⟨hl, us, rv, IsTup.new _ _⟩
  exact ⟨.ref s.heap.objs.size, _, I.laid (t' := s.toks) (fun b o e => Heap.get?_push_of_some _ e) (Nat.le_refl _) (new _), rfl, q _ (I.hok.fresh (Nat.le_refl _))⟩
theorem vals_items {P : Nat → Value → Prop} {acc : Array Value} {xs : List V} (hi : ItemsOf P acc xs.length) (h : ∀ j x u, xs[j]? = some x → P j u → RelV x u) : Vals xs acc.toList :=
  vals_of_at (by rw [Array.length_toList]; exact hi.1.symm) fun j x u e1 e2 => h j x u e1 (hi.2 j u (by rw [Array.getElem?_toList] at e2; exact e2))
def rTupDict : List V → Hp → VK → Prop := fun xs H Q => ∃ p kvs, xs = [.ref p] ∧ H p = some (.dK kvs) ∧ ∀ q, H q = none → Q (.ref q) (upd H q (.tup (kvs.map fun kv => kV kv.1)))
/-- tuple(d): the keys -/
theorem c_tupDict (hc : X.calm = true) : CallR X (.type "tuple") rTupDict := by
  rintro pins s σ H _ us Q I r ⟨p, kvs, rfl, hk, q⟩
  obtain ⟨_, rfl, rfl⟩ := vals1 r
  obtain ⟨hz, low, vs, kv, dof⟩ := dk_of I.hok hk
  obtain ⟨ep, dat⟩ := dof.dictAt
  have n : (kvs.map fun kv => kV kv.1).length = vs.length := by rw [List.length_map]; exact Paired.length kv
  have n2 := Nat.le_trans (Nat.le_of_eq n) (by rw [← n, List.length_map]; exact hz)
  refine tuple_by (T := "dict") dof.typeIs (by decide) fun E' => PySem.W.kdu_collect (PySem.W.kdl_dict (knd := mixKind X.prog X.w) (kvs := vs) (ep := ep) low) (I.ok.hd hc) dat (n ▸ n2) fun h' tk acc kp hi => ?_
  refine tup_end (I.kept (t' := tk) kp) (vals_items (n.symm ▸ hi) fun j x u e ⟨k, y, hky, hu⟩ => ?_) n2 q
  obtain ⟨v, e1, _⟩ := L2.KV.at' kv hky
  rw [List.getElem?_map, e1] at e
  cases e
  exact keyIs_rel hu
variable {o : Expr} {p pos apos mpos : Pos}
variable {td : TE}
/-- tuple(o.values()) -/
def tTupVals (td : TE) : TE := fun σ H Q => td σ H fun x H1 => ∃ a kvs, x = V.ref a ∧ H1 a = some (.dK kvs) ∧ ∀ q, H1 q = none → Q (.ref q) (upd H1 q (.tup (kvs.map fun kv => kv.2)))
theorem pe_tupVals (hc : X.calm = true) (hg : Gl X "tuple") (hm : X.mg "tuple" = none) (hd : PE X o td) (hbase : attributeBase o "values" X.env (eval o X.env) = eval o X.env := by rfl) (hline : (apos.endLine == mpos.line) = true := by rfl)
    (na : starEach [Expr.Call (.Attribute o "values" apos) [] [] mpos] X.env = (false, eval (Expr.Call (.Attribute o "values" apos) [] [] mpos) X.env) :: starEach [] X.env := by rfl) :
    PE X (.Call (.Name "tuple" p) [.Call (.Attribute o "values" apos) [] [] mpos] [] pos) (tTupVals td) := ⟨fun pins s σ H Q I h => by
  refine Call_ (ld_blt I hg hm boot_tuple (PyProof.Rows.callWith_type1 (args_cons (wpAny_Call_method0_late hbase hline (thn (hd.run pins s σ H _ I h) fun v s1 ⟨x, H1, I1, r1, a, kvs, ex, ha, q⟩ => ?_)) na) na))
  cases ex
  cases r1
  obtain ⟨hz, low, vs, kv, dof⟩ := dk_of I1.hok ha
  obtain ⟨ep, dat⟩ := dof.dictAt
  have hT : s1.TypeIs (.ref a) "dict" := dof.typeIs
  have hdn : ∃ ob, s1.heap.get? a = some ob ∧ ob.dict = none := by obtain ⟨ob, _, e, x, _⟩ := dat; exact ⟨ob, e, x.2.1⟩
  refine ⟨_, _, F.plainAttrs_dict, F.slot_dict_values, F.type_dict_values, hT, (fun b e => by cases e; exact hdn), Calls.callWith_builtin rfl (PySem.evalArgs_none (call_meetsIn F.slot_dict_values hT F.entry_dict_values (F.args_dict_values_1 _) (meets_dict_values (mixKind X.prog X.w) a low) ⟨⟨vs, dof⟩, args_nil ?_⟩))⟩
  have I2 := I1.kept (t' := s1.toks) (h' := s1.heap.push { cls := .type "dict_values", data := .fields #[.ref a] }) fun b u e => Heap.get?_push_of_some _ e
  have view : (s1.heap.push { cls := .type "dict_values", data := .fields #[.ref a] }).IsValuesView s1.heap.objs.size a := ⟨_, Heap.get?_push_size _ rfl, rfl, rfl⟩
  have n : (kvs.map fun kv => kv.2).length = vs.length := by rw [List.length_map]; exact Paired.length kv
  have n2 := Nat.le_trans (Nat.le_of_eq n) (by rw [← n, List.length_map]; exact hz)
  refine tuple_by (T := "dict_values") ⟨_, Heap.get?_push_size _ rfl, rfl⟩ (by decide) fun E' => PySem.W.kdu_collect (PySem.W.kdl_values (knd := mixKind X.prog X.w) (r := s1.heap.objs.size) (d := a) (kvs := vs) (ep := ep)) (I.ok.hd hc) ⟨view, dat.push _⟩ (n ▸ n2) fun h' tk acc kp hi => ?_
  refine tup_end (I2.kept (t' := tk) kp) (vals_items (n.symm ▸ hi) fun j x u e ⟨k, hky⟩ => ?_) n2 q
  obtain ⟨v, e1, rv⟩ := L2.KV.at' kv hky
  rw [List.getElem?_map, e1] at e
  cases e
  exact rv⟩
end
end Lw

set_option maxRecDepth 100000
set_option maxHeartbeats 4000000
/-! first occurrences -/
namespace Lw
open PySem PySem.Spec PyProof.Rows L2
section
variable {α : Type} [DecidableEq α]
def addN (acc : List α) (x : α) : List α := if x ∈ acc then acc else acc ++ [x]
def adds (acc xs : List α) : List α := xs.foldl addN acc
theorem adds_nil (acc : List α) : adds acc [] = acc := rfl
theorem adds_cons (acc : List α) (x : α) (xs : List α) : adds acc (x :: xs) = adds (addN acc x) xs := rfl
theorem adds_append (acc xs ys : List α) : adds acc (xs ++ ys) = adds (adds acc xs) ys := List.foldl_append
theorem addN_in {acc : List α} {x : α} (h : x ∈ acc) : addN acc x = acc := if_pos h
theorem addN_not {acc : List α} {x : α} (h : x ∉ acc) : addN acc x = acc ++ [x] := if_neg h
theorem mem_addN {acc : List α} {x y : α} : y ∈ addN acc x ↔ y ∈ acc ∨ y = x := by
  unfold addN
  split
  · rename_i h
    exact ⟨.inl, fun e => e.elim id fun e => e ▸ h⟩
  · rw [List.mem_append, List.mem_singleton]
theorem mem_adds : ∀ {xs acc : List α} {y : α}, y ∈ adds acc xs ↔ y ∈ acc ∨ y ∈ xs
  | [], acc, y => ⟨.inl, fun e => e.elim id fun e => nomatch e⟩
  | x :: xs, acc, y => by
    rw [adds_cons, mem_adds, mem_addN, List.mem_cons, or_assoc]
theorem adds_sub : ∀ {xs acc : List α}, (∀ x ∈ xs, x ∈ acc) → adds acc xs = acc
  | [], acc, _ => rfl
  | x :: xs, acc, h => by
    rw [adds_cons, addN_in (h x List.mem_cons_self)]
    exact adds_sub fun y hy => h y (List.mem_cons_of_mem _ hy)
theorem len_addN (acc : List α) (x : α) : (addN acc x).length ≤ acc.length + 1 := by
  unfold addN
  split
  · exact Nat.le_succ _
  · rw [List.length_append]; exact Nat.le_refl _
theorem len_adds : ∀ (xs acc : List α), (adds acc xs).length ≤ acc.length + xs.length
  | [], acc => Nat.le_refl _
  | x :: xs, acc => by
    rw [adds_cons, List.length_cons]
    have h1 := len_adds xs (addN acc x)
    have h2 := len_addN acc x
    omega
theorem adds_snoc (acc xs : List α) (x : α) : adds acc (xs ++ [x]) = addN (adds acc xs) x := by rw [adds_append]; rfl
end
/-! ### the variables of a term, an occurrence each -/
def Tm.isV : Tm → Option Int
  | .var i => some i
  | .app _ _ => none
def Tm.ints (t : Tm) : List Int := t.occ.filterMap Tm.isV
def Tm.intss (ts : List Tm) : List Int := (Tm.occs ts).filterMap Tm.isV
theorem Tm.ints_var (i : Int) : (Tm.var i).ints = [i] := by unfold Tm.ints; rw [Tm.occ_var]; rfl
theorem Tm.ints_app (n : Str) (ts : List Tm) : (Tm.app n ts).ints = Tm.intss ts := by unfold Tm.ints Tm.intss; rw [Tm.occ_app]; rfl
theorem Tm.intss_nil : Tm.intss [] = [] := by unfold Tm.intss; rw [Tm.occs_nil]; rfl
theorem Tm.intss_cons (t : Tm) (r : List Tm) : Tm.intss (t :: r) = t.ints ++ Tm.intss r := by unfold Tm.intss Tm.ints; rw [Tm.occs_cons, List.filterMap_append]
theorem Tm.intss_append (a b : List Tm) : Tm.intss (a ++ b) = Tm.intss a ++ Tm.intss b := by unfold Tm.intss; rw [Tm.occs_append, List.filterMap_append]
theorem Tm.len_ints (t : Tm) : t.ints.length ≤ t.size := by rw [← Tm.occ_len]; exact List.length_filterMap_le _ _
theorem Tm.len_intss (ts : List Tm) : (Tm.intss ts).length ≤ Tm.sizes ts := by rw [← Tm.occs_len]; exact List.length_filterMap_le _ _
/-! ### occurrences of nice terms -/
mutual
theorem Tm.occ_nice : ∀ t : Tm, t.Nice → ∀ u ∈ t.occ, u.Nice ∧ u.depth ≤ t.depth ∧ u.size ≤ t.size
  | .var i, h, u, hu => by
    rw [Tm.occ_var] at hu
    rcases List.mem_cons.mp hu with rfl | hu
    · exact ⟨h, Nat.le_refl _, Nat.le_refl _⟩
    · cases hu
  | .app n ts, h, u, hu => by
    rw [Tm.occ_app] at hu
    rcases List.mem_cons.mp hu with rfl | hu
    · exact ⟨h, Nat.le_refl _, Nat.le_refl _⟩
    · have := Tm.occs_nice ts ((Tm.nice_app _ _).mp h).2 u hu
      rw [Tm.depth_app, Tm.size_app]
      exact ⟨this.1, by omega, by omega⟩
theorem Tm.occs_nice : ∀ ts : List Tm, Tm.Nices ts → ∀ u ∈ Tm.occs ts, u.Nice ∧ u.depth ≤ Tm.depths ts ∧ u.size ≤ Tm.sizes ts
  | [], _, u, hu => by rw [Tm.occs_nil] at hu; cases hu
  | t :: r, h, u, hu => by
    rw [Tm.nices_cons] at h
    rw [Tm.occs_cons] at hu
    rw [Tm.depths_cons, Tm.sizes_cons]
    rcases List.mem_append.mp hu with hu | hu
    · have := Tm.occ_nice t h.1 u hu
      exact ⟨this.1, Nat.le_trans this.2.1 (Nat.le_max_left _ _), by omega⟩
    · have := Tm.occs_nice r h.2 u hu
      exact ⟨this.1, Nat.le_trans this.2.1 (Nat.le_max_right _ _), by omega⟩
end
theorem Tm.self_occ : ∀ t : Tm, t ∈ t.occ
  | .var i => by rw [Tm.occ_var]; exact List.mem_cons_self
  | .app n ts => by rw [Tm.occ_app]; exact List.mem_cons_self
theorem Tm.mem_occs : ∀ {ts : List Tm} {u : Tm}, u ∈ Tm.occs ts ↔ ∃ t ∈ ts, u ∈ t.occ
  | [], u => by rw [Tm.occs_nil]; exact ⟨fun h => (List.not_mem_nil h).elim, fun ⟨t, h, _⟩ => (List.not_mem_nil h).elim⟩
  | t :: r, u => by
    rw [Tm.occs_cons, List.mem_append, Tm.mem_occs]
    constructor
    · rintro (h | ⟨v, h1, h2⟩)
      · exact ⟨t, List.mem_cons_self, h⟩
      · exact ⟨v, List.mem_cons_of_mem _ h1, h2⟩
    · rintro ⟨v, h1, h2⟩
      rcases List.mem_cons.mp h1 with rfl | h1
      · exact .inl h2
      · exact .inr ⟨v, h1, h2⟩
mutual
/-- occurrences of occurrences are occurrences -/
theorem Tm.occ_trans : ∀ t u : Tm, u ∈ t.occ → ∀ v ∈ u.occ, v ∈ t.occ
  | .var i, u, hu, v, hv => by
    rw [Tm.occ_var] at hu
    rcases List.mem_cons.mp hu with rfl | hu
    · exact hv
    · cases hu
  | .app n ts, u, hu, v, hv => by
    rw [Tm.occ_app] at hu
    rcases List.mem_cons.mp hu with rfl | hu
    · exact hv
    · rw [Tm.occ_app]
      exact List.mem_cons_of_mem _ (Tm.occs_trans ts u hu v hv)
theorem Tm.occs_trans : ∀ (ts : List Tm) (u : Tm), u ∈ Tm.occs ts → ∀ v ∈ u.occ, v ∈ Tm.occs ts
  | [], u, hu, v, hv => by rw [Tm.occs_nil] at hu; cases hu
  | t :: r, u, hu, v, hv => by
    rw [Tm.occs_cons] at hu ⊢
    rcases List.mem_append.mp hu with hu | hu
    · exact List.mem_append_left _ (Tm.occ_trans t u hu v hv)
    · exact List.mem_append_right _ (Tm.occs_trans r u hu v hv)
end
mutual
theorem Tm.occ_size : ∀ t u : Tm, u ∈ t.occ → u = t ∨ u.size < t.size
  | .var i, u, hu => by
    rw [Tm.occ_var] at hu
    rcases List.mem_cons.mp hu with rfl | hu
    · exact .inl rfl
    · cases hu
  | .app n ts, u, hu => by
    rw [Tm.occ_app] at hu
    rcases List.mem_cons.mp hu with rfl | hu
    · exact .inl rfl
    · have := Tm.occs_size ts u hu
      rw [Tm.size_app]
      exact .inr (by omega)
theorem Tm.occs_size : ∀ (ts : List Tm) (u : Tm), u ∈ Tm.occs ts → u.size ≤ Tm.sizes ts
  | [], u, hu => by rw [Tm.occs_nil] at hu; cases hu
  | t :: r, u, hu => by
    rw [Tm.occs_cons] at hu
    rw [Tm.sizes_cons]
    rcases List.mem_append.mp hu with hu | hu
    · rcases Tm.occ_size t u hu with rfl | h
      · omega
      · omega
    · have := Tm.occs_size r u hu
      omega
end
/-- all that is found, up to a size, is found with all its occurrences -/
def Closed (m : Nat) (acc : List Tm) : Prop := ∀ u ∈ acc, u.size ≤ m → ∀ v ∈ u.occ, v ∈ acc
theorem Closed.nil (m : Nat) : Closed m [] := fun u h => nomatch h
theorem Closed.mono {m m' : Nat} {acc : List Tm} (h : Closed m acc) (hm : m' ≤ m) : Closed m' acc := fun u hu hz => h u hu (Nat.le_trans hz hm)
theorem Closed.addsO {m : Nat} {acc : List Tm} {t : Tm} (h : Closed m acc) : Closed m (adds acc t.occ) := fun u hu hz v hv => by
  rcases mem_adds.mp hu with hu | hu
  · exact mem_adds.mpr (.inl (h u hu hz v hv))
  · exact mem_adds.mpr (.inr (Tm.occ_trans t u hu v hv))
/-- the term is found: nothing is added -/
theorem Closed.found {acc : List Tm} {t : Tm} (h : Closed t.size acc) (ht : t ∈ acc) : adds acc t.occ = acc := adds_sub fun v hv => h t ht (Nat.le_refl _) v hv
/-- a greater one at the end -/
theorem Closed.snoc {m : Nat} {acc : List Tm} {t : Tm} (h : Closed m acc) (hm : m < t.size) : Closed m (acc ++ [t]) := fun u hu hz v hv => by
  rcases List.mem_append.mp hu with hu | hu
  · exact List.mem_append_left _ (h u hu hz v hv)
  · rcases List.mem_cons.mp hu with rfl | hu
    · omega
    · cases hu
/-! ### dicts by ints, dicts by repr -/
def dkI (ks : List Int) : List (Key × V) := ks.map fun i => (Sum.inl i, V.bl true)
theorem valV_dkI (ks : List Int) (i : Int) : valV (dkI ks) (Sum.inl i) = if i ∈ ks then some (.bl true) else none := by
  induction ks with
  | nil => rfl
  | cons j r ih =>
    by_cases e : j = i
    · rw [show dkI (j :: r) = (Sum.inl j, V.bl true) :: dkI r from rfl, valV_pos (by rw [e]), if_pos (by rw [e]; exact List.mem_cons_self)]
    · rw [show dkI (j :: r) = (Sum.inl j, V.bl true) :: dkI r from rfl, valV_neg (fun z => e (Sum.inl.inj z)), ih]
      by_cases h : i ∈ r
      · rw [if_pos h, if_pos (List.mem_cons_of_mem _ h)]
      · rw [if_neg h, if_neg fun z => (List.mem_cons.mp z).elim (fun z => e z.symm) h]
theorem putK_dkI (ks : List Int) (i : Int) : putK (dkI ks) (Sum.inl i) (.bl true) = dkI (addN ks i) := by
  have hv := valV_dkI ks i
  by_cases h : i ∈ ks
  · rw [if_pos h] at hv
    rw [addN_in h]
    unfold putK
    rw [valV_any, hv]
    rw [if_pos (show (some (V.bl true)).isSome = true from rfl)]
    unfold dkI
    rw [List.map_map]
    refine List.map_congr_left fun j _ => ?_
    show (if _ then _ else _) = _
    split <;> rfl
  · rw [if_neg h] at hv
    rw [addN_not h, putK_new _ hv]
    unfold dkI
    rw [List.map_append]
    rfl
def dkR : List Tm → List V → List (Key × V)
  | t :: ts, v :: vs => (Sum.inr t.dat.shown, v) :: dkR ts vs
  | _, _ => []
theorem dkR_vals : ∀ {ts : List Tm} {vs : List V}, vs.length = ts.length → (dkR ts vs).map (fun kv => kv.2) = vs
  | [], [], _ => rfl
  | [], _ :: _, h => by cases h
  | _ :: _, [], h => by cases h
  | t :: ts, v :: vs, h => by
    show v :: (dkR ts vs).map (fun kv => kv.2) = _
    rw [dkR_vals (by simpa using h)]
theorem dkR_len : ∀ {ts : List Tm} {vs : List V}, vs.length = ts.length → (dkR ts vs).length = ts.length
  | [], [], _ => rfl
  | [], _ :: _, h => by cases h
  | _ :: _, [], h => by cases h
  | t :: ts, v :: vs, h => by
    show (dkR ts vs).length + 1 = _
    rw [dkR_len (by simpa using h)]
    rfl
theorem dkR_snoc : ∀ {ts : List Tm} {vs : List V} (t : Tm) (v : V), vs.length = ts.length → dkR (ts ++ [t]) (vs ++ [v]) = dkR ts vs ++ [(Sum.inr t.dat.shown, v)]
  | [], [], _, _, _ => rfl
  | [], _ :: _, _, _, h => by cases h
  | _ :: _, [], _, _, h => by cases h
  | a :: ts, b :: vs, t, v, h => by
    show (Sum.inr a.dat.shown, b) :: dkR (ts ++ [t]) (vs ++ [v]) = _
    rw [dkR_snoc t v (by simpa using h)]
    rfl
theorem valV_dkR : ∀ {ts : List Tm} {vs : List V} {t : Tm}, vs.length = ts.length → (∀ u ∈ ts, u.Nice) → t.Nice → ((valV (dkR ts vs) (Sum.inr t.dat.shown)).isSome = true ↔ t ∈ ts)
  | [], [], t, _, _, _ => ⟨fun h => (by cases h), fun h => nomatch h⟩
  | [], _ :: _, _, h, _, _ => by cases h
  | _ :: _, [], _, h, _, _ => by cases h
  | a :: ts, b :: vs, t, h, hn, ht => by
    rw [show dkR (a :: ts) (b :: vs) = (Sum.inr a.dat.shown, b) :: dkR ts vs from rfl]
    by_cases e : a = t
    · rw [valV_pos (by rw [e])]
      exact ⟨fun _ => by rw [e]; exact List.mem_cons_self, fun _ => rfl⟩
    · rw [valV_neg (fun z => e (shown_inj (hn a List.mem_cons_self) ht (Sum.inr.inj z))), valV_dkR (by simpa using h) (fun u hu => hn u (List.mem_cons_of_mem _ hu)) ht]
      exact ⟨List.mem_cons_of_mem _, fun z => (List.mem_cons.mp z).elim (fun z => absurd z.symm e) id⟩
end Lw

set_option maxRecDepth 100000
set_option maxHeartbeats 4000000
/-! steps with dicts, `not in`, promises on variables and subterms -/
namespace Lw
open PySem PySem.Spec PyProof.Rows L2
section
variable {σ : L2.St} {H : Hp} {Q : VK} {D : Ends} {K : PySem.W.Frag} {td ty tv tx : TE}
theorem d_dnew (q : ∀ p, H p = none → Q (.ref p) (upd H p (.dK []))) : tDNewK σ H Q := q
theorem d_dput (q : tv σ H fun v H1 => td σ H1 fun x H2 => ty σ H2 fun y H3 => ∃ a H4, x = .ref a ∧ DPut H3 a y v H4 ∧ D.nx σ H4) : sDPut td ty tv D σ H := q
theorem d_dsetd (q : td σ H fun x H1 => ∃ a, x = .ref a ∧ IsD H1 a ∧ ty σ H1 fun y H2 => tx σ H2 fun z H3 => ∃ (kvs : List (Key × V)) (k : Key), H3 a = some (.dK kvs) ∧ y = kV k ∧ kvs.length < sizeLine ∧
  (∀ v, valV kvs k = some v → Q v H3) ∧ (valV kvs k = none → Q z (upd H3 a (.dK (putK kvs k z))))) : tDSetd td ty tx σ H Q := q
theorem d_tupVals (q : td σ H fun x H1 => ∃ a kvs, x = V.ref a ∧ H1 a = some (.dK kvs) ∧ ∀ q, H1 q = none → Q (.ref q) (upd H1 q (.tup (kvs.map fun kv => kv.2)))) : tTupVals td σ H Q := q
theorem d_tupDict {a : Addr} {kvs : List (Key × V)} (h : H a = some (.dK kvs)) (q : ∀ p, H p = none → Q (.ref p) (upd H p (.tup (kvs.map fun kv => kV kv.1)))) : rTupDict [.ref a] H Q := ⟨a, kvs, rfl, h, q⟩
end
theorem RoomG.u65 {k : Nat} {A : Around} (r : RoomG k A) : A.units + 65 < cLine := by have := r.room.un; omega
theorem RoomG.u1 {k : Nat} {A : Around} (r : RoomG k A) : A.units + 1 < cLine := by have := r.room.un; omega
theorem shaped_of {d : PyData} (h : d.canLay0 = true) (hd : d.depth ≤ 62) : SeqAt.shaped d = true := by
  unfold SeqAt.shaped
  rw [h, decide_eq_true (Nat.le_trans hd (by decide))]
  rfl
theorem ints_lay : ∀ is : List Int, PyData.canLayAll0 (is.map PyData.int) = true ∧ PyData.depthAll (is.map PyData.int) = 0
  | [] => ⟨rfl, rfl⟩
  | i :: r => by
    obtain ⟨h1, h2⟩ := ints_lay r
    refine ⟨?_, ?_⟩
    · show ((PyData.int i).canLay0 && PyData.canLayAll0 (r.map PyData.int)) = true
      rw [h1]; rfl
    · rw [List.map_cons]
      simp only [PyData.depthAll, PyData.depth, h2]
      rfl
theorem dpAll_ints {K : PySem.W.Frag} {H : Hp} : ∀ is : List Int, DpAll K H (is.map V.int) (is.map PyData.int)
  | [] => .nil
  | i :: r => .cons (.int i) (dpAll_ints r)
theorem any_ints (is : List Int) (i : Int) : ((is.map PyData.int).any fun z => PyData.eqv z (.int i)) = decide (i ∈ is) := by
  rw [Bool.eq_iff_iff, List.any_eq_true, decide_eq_true_eq]
  refine ⟨fun ⟨z, hz, e⟩ => ?_, fun h => ⟨.int i, List.mem_map.mpr ⟨i, h, rfl⟩, beq_self_eq_true i⟩⟩
  obtain ⟨j, hj, rfl⟩ := List.mem_map.mp hz
  have e : (j == i) = true := e
  rw [← eq_of_beq e]
  exact hj
theorem d_notInI {K : PySem.W.Frag} {H : Hp} {Q : VK} {l : Addr} {is : List Int} {i : Int} (h : H l = some (.lst (is.map V.int))) (q : Q (.bl (!decide (i ∈ is))) H) : rNotInD K (.int i) (.ref l) H Q := by
  obtain ⟨h1, h2⟩ := ints_lay is
  refine ⟨.int i, is.map PyData.int, .int i, .lst (sqL h) (dpAll_ints is), rfl, shaped_of h1 (by simp only [PyData.depth, h2]; decide), ?_⟩
  rw [any_ints]
  exact q
theorem tms_lay {ts : List Tm} {d : Nat} (hn : ∀ t ∈ ts, t.Nice) (hd : ∀ t ∈ ts, t.depth ≤ d) : PyData.canLayAll0 (ts.map Tm.dat) = true ∧ PyData.depthAll (ts.map Tm.dat) ≤ d := by
  rw [← Tm.dats_map]
  exact ⟨Tm.dats_can ts ((Tm.nices_iff ts).mpr hn), Nat.le_trans (Tm.dats_dep ts) (Tm.depths_le hd)⟩
theorem d_notInT {K : PySem.W.Frag} {H : Hp} {Q : VK} {l : Addr} {x : V} {vs : List V} {ts : List Tm} {t : Tm} (hx : At H x t) (h : H l = some (.lst vs)) (a : Ats H vs ts) (nt : t.Nice) (dt : t.depth ≤ 61) (hn : ∀ t ∈ ts, t.Nice) (hd : ∀ t ∈ ts, t.depth ≤ 61) (q : Q (.bl (!decide (t ∈ ts))) H) : rNotInD K x (.ref l) H Q := by
  obtain ⟨h1, h2⟩ := tms_lay hn hd
  refine ⟨t.dat, ts.map Tm.dat, hx.dp, .lst (sqL h) a.dp, shaped_of (Tm.dat_can t nt) (by have := Tm.dat_dep t; omega), shaped_of h1 (by simp only [PyData.depth]; omega), ?_⟩
  rw [any_eqv nt]
  exact q
/-! ### promises -/
def spKey : Sp := fun vs H Q _ => ∃ (v : V) (tm : Tm), vs = [v] ∧ At H v tm ∧ tm.Nice ∧ tm.depth ≤ 62 ∧ tm.size ≤ 20000 ∧ ∀ H', Kp [] H H' → Q (.str tm.dat.shown) H'
def spVars : Sp := fun vs H Q _ => ∃ (a : Addr) (xs : List V) (ts : List Tm), vs = [.ref a] ∧ H a = some (.tup xs) ∧ Ats H xs ts ∧ Tm.sizes ts ≤ 100000 ∧
  ∀ (H' : Hp) (p : Addr), Kp [] H H' → H p = none → H' p = some (.tup ((adds [] (Tm.intss ts)).map V.int)) → Q (.ref p) H'
def spSubs : Sp := fun vs H Q _ => ∃ (v : V) (tm : Tm), vs = [v] ∧ At H v tm ∧ tm.Nice ∧ tm.depth ≤ 61 ∧ tm.size ≤ 20000 ∧
  ∀ (H' : Hp) (p : Addr) (ws : List V), Kp [] H H' → H p = none → H' p = some (.tup ws) → Ats H' ws (adds [] tm.occ) → Q (.ref p) H'
def spRel : Sp := fun vs H Q _ => ∃ (a : Addr) (n : Str) (xs : List V), vs = [.ref a] ∧ H a = some (.tup (.str n :: xs)) ∧ ∀ (H' : Hp) (p : Addr), Kp [] H H' → H p = none → H' p = some (.tup [.str n, .int xs.length]) → Q (.ref p) H'
def spCollect (d : Nat) : Sp := fun vs H Q _ => ∃ (v : V) (l : Addr) (tm : Tm) (is : List Int), vs = [v, .ref l] ∧ At H v tm ∧ tm.depth ≤ d ∧ H l = some (.lst (is.map V.int)) ∧ is.length + tm.size ≤ 500000 ∧
  ∀ H', Kp [l] H H' → H' l = some (.lst ((adds is tm.ints).map V.int)) → Q .non H'
/-- .. of a list -/
def spLVars (d : Nat) : Sp := fun vs H Q _ => ∃ (a : Addr) (xs : List V) (ts : List Tm), vs = [.ref a] ∧ H a = some (.lst xs) ∧ Ats H xs ts ∧ (∀ t ∈ ts, t.depth ≤ d) ∧ Tm.sizes ts ≤ 100000 ∧
  ∀ (H' : Hp) (p : Addr), Kp [] H H' → H p = none → H' p = some (.lst ((adds [] (Tm.intss ts)).map V.int)) → Q (.ref p) H'
def spParts (d : Nat) : Sp := fun vs H Q _ => ∃ (v : V) (l : Addr) (tm : Tm) (fs : List V) (acc : List Tm), vs = [v, .ref l] ∧ At H v tm ∧ tm.Nice ∧ tm.depth ≤ d ∧ tm.depth ≤ 61 ∧ H l = some (.lst fs) ∧ Ats H fs acc ∧ (∀ u ∈ acc, u.Nice ∧ u.depth ≤ 61) ∧
  Closed tm.size acc ∧ acc.length + tm.size ≤ 500000 ∧ ∀ (H' : Hp) (fs' : List V), Kp [l] H H' → H' l = some (.lst fs') → Ats H' fs' (adds acc tm.occ) → Q .non H'
theorem one_not' {a b : Addr} (h : a ≠ b) : a ∉ [b] := fun z => by rcases List.mem_cons.mp z with z | z; exact h z; cases z
/-- what is not the one address stays -/
theorem Kp.one {H H' : Hp} {l a : Addr} {o : HO} (k : Kp [l] H H') (h : a ≠ l) (e : H a = some o) : H' a = some o := k a o (one_not' h) e
theorem no_tupD {H : Hp} {a : Addr} {kvs : List (Key × V)} (h : H a = some (.dK kvs)) : ∀ b ∈ [a], ∀ ys, H b ≠ some (.tup ys) := fun b hb ys e => by
  rcases List.mem_cons.mp hb with z | z
  · rw [z, h] at e; cases e
  · cases z
end Lw
namespace Lw
open PySem PySem.Spec PyProof.Rows L2
theorem d_ixT0 {K : PySem.W.Frag} {H : Hp} {Q : VK} {p : Addr} {v : V} {xs : List V} (h : H p = some (.tup (v :: xs))) (q : Q v H) : rIxT K (.ref p) (.int 0) H Q := d_ixTc h (atI_of (Int.le_refl _) rfl) q
end Lw
namespace Lw
open PySem PySem.Spec PyProof.Rows L2
/-- one more taken -/
theorem take_succ_of {α : Type} {ts : List α} {i : Nat} {t : α} (h : ts[i]? = some t) : ts.take (i + 1) = ts.take i ++ [t] := by rw [List.take_add_one, h]; rfl
theorem sizes_take {ts : List Tm} {i : Nat} {t : Tm} (h : ts[i]? = some t) : Tm.sizes (ts.take i) + t.size ≤ Tm.sizes ts := by
  have e1 : Tm.sizes (ts.take (i + 1)) ≤ Tm.sizes ts := by
    conv => rhs; rw [← List.take_append_drop (i + 1) ts, Tm.sizes_append]
    omega
  rw [take_succ_of h, Tm.sizes_append, Tm.sizes_cons, Tm.sizes_nil] at e1
  omega
theorem intss_take {ts : List Tm} {i : Nat} {t : Tm} (h : ts[i]? = some t) : Tm.intss (ts.take (i + 1)) = Tm.intss (ts.take i) ++ t.ints := by
  rw [take_succ_of h, Tm.intss_append, Tm.intss_cons, Tm.intss_nil, List.append_nil]
theorem occs_take {ts : List Tm} {i : Nat} {t : Tm} (h : ts[i]? = some t) : Tm.occs (ts.take (i + 1)) = Tm.occs (ts.take i) ++ t.occ := by
  rw [take_succ_of h, Tm.occs_append, Tm.occs_cons, Tm.occs_nil, List.append_nil]
theorem Ats.take_all {H : Hp} {vs : List V} {ts : List Tm} (h : Ats H vs ts) : ts.take vs.length = ts := List.take_of_length_le (by rw [← h.len]; exact Nat.le_refl _)
end Lw
namespace Lw
open PySem PySem.Spec PyProof.Rows L2
theorem fresh0 {H H1 : Hp} {p : Addr} (k : Kp [] H H1) (hp : H1 p = none) : H p = none := by
  cases e : H p with
  | none => rfl
  | some o =>
    have e2 := k p o (by simp) e
    rw [hp] at e2
    cases e2
end Lw

set_option maxRecDepth 100000
set_option maxHeartbeats 4000000
/-! drawn lists of terms of several depths; told and due that are tuples of ints -/
namespace Lw
open PySem PySem.Spec PyProof.Rows L2
/-- [draw(.., depth of j) for j in range(n)] -/
theorem lb_termsD {t sc sy va : Addr} {ns : List Int} {zs : List (Str × Int)} {vars : List Tm} {σ : L2.St} {i m : Nat} {n : Nat} {B : Hp} {D : Addr} {Qd : Hp → Prop} {te : TE} (dd : Nat → Nat) (hD : B D = none) (W : Dw B t sc sy va ns zs vars) (z1 : 1 ≤ zs.length) (z2 : zs.length ≤ 100000) (v2 : vars.length ≤ 100000) (hn : n ≤ 100000)
    (hte : ∀ j H' (Q : VK), spTermLe m [.ref t, .ref sy, .ref va, .int ((dd j : Int) + 1)] H' Q E0 → te (((wipe σ [i]).set i (some (.int (0 + (j : Nat)))))) H' Q) (hd0 : ∀ j, dd j ≤ m)
    (hd : ∀ H' vs ts, Kp [D, t] B H' → H' D = some (.lst vs) → Ats H' vs ts → ts.length = n → (∀ u ∈ ts, ∃ e, e ≤ m ∧ Gen zs vars e u) → Dw H' t sc sy va ns zs vars → Qd H') :
    LcB (Itr 0 n) (gName i) tYes te [i] σ B D Qd := by
  have nD1 : D ≠ t := fun z => W.tp.t_some hD z.symm
  have nD2 : D ≠ sc := fun z => W.tp.s_some hD z.symm
  have nD3 : D ≠ sy := fun z => by obtain ⟨_, q1, _⟩ := W.sy.is; exact ne_of_none q1 hD z.symm
  have nD4 : D ≠ va := fun z => by obtain ⟨_, q1, _⟩ := W.va.is; exact ne_of_none q1 hD z.symm
  have i1 : ∀ {a : Addr}, D ≠ a → a ∉ [D] := fun h z => by rcases List.mem_cons.mp z with z | z; exact h z.symm; cases z
  refine lb_range (fun j H2 => ∃ vs ts, H2 D = some (.lst vs) ∧ Ats H2 vs ts ∧ ts.length = j ∧ (∀ u ∈ ts, ∃ e, e ≤ m ∧ Gen zs vars e u) ∧ Kp [D, t] B H2 ∧ Dw H2 t sc sy va ns zs vars)
    ⟨[], [], upd_same, .nil, rfl, (fun u hu => by cases hu), Kp.new hD, W.nil (Kp.new hD)⟩ (fun j H2 hj h2 => ?_) (fun H2 h2 => ?_)
  · obtain ⟨vs, ts, eD, aD, lD, gD, kD, W2⟩ := h2
    show wipe (List.set (wipe σ [i]) i (some (.int (0 + (j : Nat))))) [i] = wipe σ [i] ∧ _
    refine ⟨by show ((σ.set i none).set i _).set i none = σ.set i none; rw [List.set_set, List.set_set], ?_⟩
    refine hte j H2 _ ⟨dd j, hd0 j, t, sc, sy, va, ns, zs, vars, rfl, W2.tp, W2.sy, z1, z2, W2.va, v2, fun H4 v tm k4 T4 a4 g4 => ?_⟩
    have W4 := W2.tape k4 T4
    have eD4 := kept_at k4 nD1 eD
    have kd : Kp [D] H4 (upd H4 D (.lst (vs ++ [v]))) := Kp.put (by simp)
    refine ⟨vs, eD4, smallL (by rw [aD.len, lD]; omega), vs ++ [v], ts ++ [tm], upd_same, ?_, by rw [List.length_append, lD]; rfl, fun u hu => ?_, ?_, ?_⟩
    · exact kd.ats (no_tup1 eD4) ((aD.keep (W2.tp.keepT k4)).append (.one a4))
    · rcases List.mem_append.mp hu with hu | hu
      · exact gD u hu
      · rcases List.mem_cons.mp hu with rfl | hu
        · exact ⟨dd j, hd0 j, g4⟩
        · cases hu
    · exact (kD.trans (k4.mono fun b hb => List.mem_cons_of_mem _ hb)).trans (Kp.put (by simp))
    · exact ⟨T4.keep kd (i1 nD1) (i1 nD2), W4.sy.keep kd (i1 nD3) (no_tup1 eD4), W4.va.keep kd (i1 nD4) (no_tup1 eD4)⟩
  · obtain ⟨vs, ts, eD, aD, lD, gD, kD, W2⟩ := h2
    exact hd H2 vs ts kD eD aD lD gD W2
theorem Tm.ints_nice {t : Tm} (h : t.Nice) : ∀ i ∈ t.ints, 0 ≤ i ∧ i < 1000000000000 := fun i hi => by
  obtain ⟨u, hu, e⟩ := List.mem_filterMap.mp hi
  have n := (Tm.occ_nice t h u hu).1
  cases u with
  | var j =>
    cases e
    exact (Tm.nice_var _).mp n
  | app _ _ => cases e
theorem Tm.intss_nice {ts : List Tm} (h : ∀ t ∈ ts, t.Nice) : ∀ i ∈ Tm.intss ts, 0 ≤ i ∧ i < 1000000000000 := fun i hi => by
  obtain ⟨u, hu, e⟩ := List.mem_filterMap.mp hi
  obtain ⟨t, ht, hu⟩ := Tm.mem_occs.mp hu
  have n := (Tm.occ_nice t (h t ht) u hu).1
  cases u with
  | var j =>
    cases e
    exact (Tm.nice_var _).mp n
  | app _ _ => cases e
theorem d_alikeIs {K : PySem.W.Frag} {H : Hp} {Q : VK} {E : XK} {a b : Addr} {is : List Int} (e1 : H a = some (.tup (is.map V.int))) (e2 : H b = some (.tup (is.map V.int))) (hn : ∀ i ∈ is, 0 ≤ i ∧ i < 1000000000000) (hw : is.length ≤ 20000)
    (q : ∀ H', Kp [] H H' → Q (.bl true) H') : spAlikeD K [.ref a, .ref b] H Q E :=
  ⟨_, _, .tuple (is.map PyData.int), rfl, dp_tup e1 (dpAll_ints is), dp_tup e2 (dpAll_ints is), (Gd.tup (b := 0) (w := 42) (b' := 1) (w' := 1000000) (fun d hd => by
    obtain ⟨i, hi, rfl⟩ := List.mem_map.mp hd
    exact Gd.int (hn i hi).1 (hn i hi).2) (Nat.le_refl _) (by rw [List.length_map]; omega)).good (by decide) (Nat.le_refl _), .inr ⟨⟨_, _, rfl, e1⟩, ⟨_, _, rfl, e2⟩⟩, q⟩
/-- .. of a text and an int -/
theorem d_alikeSI {K : PySem.W.Frag} {H : Hp} {Q : VK} {E : XK} {a b : Addr} {z : Str} {i : Int} (e1 : H a = some (.tup [.str z, .int i])) (e2 : H b = some (.tup [.str z, .int i])) (hz : TxtOk z) (h0 : 0 ≤ i) (h1 : i < 1000000000000)
    (q : ∀ H', Kp [] H H' → Q (.bl true) H') : spAlikeD K [.ref a, .ref b] H Q E :=
  ⟨_, _, .tuple [.str z, .int i], rfl, dp_tup e1 (.cons (.str z) (.cons (.int i) .nil)), dp_tup e2 (.cons (.str z) (.cons (.int i) .nil)), (Gd.tup (b := 0) (w := 42) (b' := 1) (w' := 1000000) (fun d hd => by
    rcases List.mem_cons.mp hd with rfl | hd
    · exact Gd.str hz
    · rcases List.mem_cons.mp hd with rfl | hd
      · exact Gd.int h0 h1
      · cases hd) (Nat.le_refl _) (by rw [List.length_cons, List.length_cons, List.length_nil]; omega)).good (by decide) (Nat.le_refl _), .inr ⟨⟨_, _, rfl, e1⟩, ⟨_, _, rfl, e2⟩⟩, q⟩
theorem txt_eq : TxtOk "=" := ⟨by decide +kernel, by decide +kernel⟩
theorem vars_nice {is : List Int} (h : ∀ i ∈ is, 0 ≤ i ∧ i < 1000000000000) : ∀ t ∈ is.map Tm.var, t.Nice ∧ t.depth ≤ 1 ∧ t.size ≤ 1 := fun t ht => by
  obtain ⟨i, hi, rfl⟩ := List.mem_map.mp ht
  rw [Tm.depth_var, Tm.size_var]
  exact ⟨(Tm.nice_var _).mpr (h i hi), Nat.le_refl _, Nat.le_refl _⟩
end Lw
namespace Lw
open PySem PySem.Spec PyProof.Rows L2
mutual
theorem Tm.sizes_occ : ∀ t : Tm, Tm.sizes t.occ ≤ t.size * t.depth
  | .var i => by rw [Tm.occ_var, Tm.sizes_cons, Tm.sizes_nil, Tm.size_var, Tm.depth_var]; exact Nat.le_refl _
  | .app n ts => by
    have h := Tm.sizes_occs ts
    rw [Tm.occ_app, Tm.sizes_cons, Tm.size_app, Tm.depth_app, Nat.mul_add, Nat.add_mul, Nat.add_mul]
    omega
theorem Tm.sizes_occs : ∀ ts : List Tm, Tm.sizes (Tm.occs ts) ≤ Tm.sizes ts * Tm.depths ts
  | [] => by rw [Tm.occs_nil, Tm.sizes_nil, Nat.zero_mul]; exact Nat.le_refl _
  | t :: r => by
    have h1 := Tm.sizes_occ t
    have h2 := Tm.sizes_occs r
    rw [Tm.occs_cons, Tm.sizes_append, Tm.sizes_cons, Tm.depths_cons, Nat.add_mul]
    have h3 : t.size * t.depth ≤ t.size * max t.depth (Tm.depths r) := Nat.mul_le_mul_left _ (Nat.le_max_left _ _)
    have h4 : Tm.sizes r * Tm.depths r ≤ Tm.sizes r * max t.depth (Tm.depths r) := Nat.mul_le_mul_left _ (Nat.le_max_right _ _)
    omega
end
theorem sizes_addN (acc : List Tm) (t : Tm) : Tm.sizes (addN acc t) ≤ Tm.sizes acc + t.size := by
  unfold addN
  split
  · omega
  · rw [Tm.sizes_append, Tm.sizes_cons, Tm.sizes_nil]; omega
theorem sizes_adds : ∀ (xs acc : List Tm), Tm.sizes (adds acc xs) ≤ Tm.sizes acc + Tm.sizes xs
  | [], acc => by rw [adds_nil]; omega
  | x :: xs, acc => by
    have h1 := sizes_adds xs (addN acc x)
    have h2 := sizes_addN acc x
    rw [adds_cons, Tm.sizes_cons]
    omega
theorem Gd.tms {ts : List Tm} {b s : Nat} (hn : ∀ t ∈ ts, t.Nice) (hd : ∀ t ∈ ts, t.depth ≤ b) (hs : Tm.sizes ts ≤ s) : Gd (b + 1) (42 * s + 1) (.tuple (ts.map Tm.dat)) := by
  have N := (Tm.nices_iff ts).mpr hn
  rw [← Tm.dats_map]
  refine ⟨Tm.dats_can ts N, ?_, Tm.dats_sh ts N, Tm.dats_ls ts N, ?_⟩
  · simp only [PyData.depth]
    have := Tm.dats_dep ts
    have := Tm.depths_le hd
    omega
  · show PyData.weightAll (Tm.dats ts) + 1 ≤ _
    have := Tm.dats_wt ts N
    omega
theorem d_alikeTS {K : PySem.W.Frag} {H : Hp} {Q : VK} {E : XK} {a b : Addr} {xs ys : List V} {ts : List Tm} (e1 : H a = some (.tup xs)) (e2 : H b = some (.tup ys)) (h1 : Ats H xs ts) (h2 : Ats H ys ts) (hn : ∀ t ∈ ts, t.Nice) (hd : ∀ t ∈ ts, t.depth ≤ 61) (hs : Tm.sizes ts ≤ 20000)
    (q : ∀ H', Kp [] H H' → Q (.bl true) H') : spAlikeD K [.ref a, .ref b] H Q E :=
  ⟨_, _, .tuple (ts.map Tm.dat), rfl, dp_tup e1 h1.dp, dp_tup e2 h2.dp, (Gd.tms (b := 61) (s := 20000) hn hd hs).good (by decide) (by decide), .inr ⟨⟨_, _, rfl, e1⟩, ⟨_, _, rfl, e2⟩⟩, q⟩
end Lw

set_option maxRecDepth 100000
set_option maxHeartbeats 4000000
/-! generator expressions whose element may do anything, handed to tuple -/
namespace Lw
open PySem PySem.Spec PyProof.Rows L2 GenW
section
variable {A : Around} {elt iter tg : Expr} {scope : Scope} {pos : Pos} {it : Value} {ce : Env}
abbrev gxE (elt tg iter : Expr) (scope : Scope) (pos : Pos) : Expr := .GeneratorExp elt [⟨tg, iter, [], 0⟩] scope pos
theorem over_gxs : A.over (.compStart (gxE elt tg iter scope pos) 0 it .none ce) [] = A.deeper ce := by
  rfl
theorem over_gxl : A.over (.compLoop (gxE elt tg iter scope pos) 0 it .none ce) [] = A.deeper ce := by
  rfl
end
/-- the context of the element -/
def gxc (X : Cx) (N : List Str) (ce : Env) (A : Around) (sc : Shared) (H : Hp) (fp : List Addr) (pn : List (Addr × Obj)) : Cx where
  prog := X.prog
  w := X.w
  K := X.K
  mg := X.mg
  base := X.base
  A := A.deeper ce
  N := N
  s_0 := sc
  H_0 := H
  env := ce
  outer := X.stack
  stack := ce :: X.stack
  ex := fp
  calm := true
  fn := fun _ => false
  pn := pn
  xe := fun _ _ => False
/-- the turns: m goes down; ys: what is out -/
def GxW (J : It) (te : TE) (ws : List (Option V)) (Qd : List V → Hp → Prop) (W : Nat → Nat → List V → Hp → Prop) : Prop := ∀ m i ys H, W m i ys H →
  (J.stop i H ∧ Qd ys H) ∨ (J.go i H ∧ ys.length < sizeLine ∧ ∃ Nx : List V → Hp → Prop, (∀ ys' H', Nx ys' H' → ∃ m', m' < m ∧ W m' (i + 1) ys' H') ∧ ∀ y H', J.yld i H y H' → te (some y :: ws) H' fun z H2 => Nx (ys ++ [z]) H2)
section
variable {X : Cx} {N fr : List Str} {ce : Env} {A : Around} {sc : Shared} {H0 : Hp} {fp : List Addr} {pn : List (Addr × Obj)} {elt iter : Expr} {x : Str} {px pos : Pos} {scope : Scope} {it : Addr} {tn : Nat → Heap → Prop} {J : It} {te : TE} {S : Addr}
def GxEnd (X' : Cx) (S : Addr) (Qd : List V → Hp → Prop) : GenEnd := fun n s₀ r s => r = .ok .next ∧ ∃ ys σ H, n + ys.length = sizeLine ∧ GI X' S [] ys σ H s ∧ Qd ys H
theorem seg_gxLoop (hN : (x :: fr).Nodup) (hxl : ce.scope.names.lookup x = some .local) (hco : ce.scope.isCoroutine = false) (T : Turn X.prog X.w X.K (.Name x px) J fp it tn) (he : PE (gxc X (x :: fr) ce A sc H0 fp pn) elt te)
    (hpS : ∀ p ∈ pn, p.1 ≠ S) (hfS : ∀ b ∈ fp, b ≠ S) (hpf : ∀ p ∈ pn, p.1 ∉ fp) (hA : Apart (gxc X (x :: fr) ce A sc H0 fp pn) S) {ws : List (Option V)} {Qd : List V → Hp → Prop} {W : Nat → Nat → List V → Hp → Prop} (hW : GxW J te ws Qd W) :
    ∀ (m i n : Nat) (ys : List V) (s₀ s : Shared) (σ1 : Option V) (H : Hp), W m i ys H → n + ys.length = sizeLine → GI (gxc X (x :: fr) ce A sc H0 fp pn) S [] ys (σ1 :: ws) H s → tn i s.heap → (∀ b ∈ fp, H b = none) →
      Seg (model X.prog X.w) A (GxEnd (gxc X (x :: fr) ce A sc H0 fp pn) S Qd) (GY (gxc X (x :: fr) ce A sc H0 fp pn) S) n s₀ (.compLoop (gxE elt (.Name x px) iter scope pos) 0 (.ref it) .none ce) ((model X.prog X.w).den (.compLoop (gxE elt (.Name x px) iter scope pos) 0 (.ref it) .none ce)) [] s := by
  intro m
  induction m using Nat.strongRecOn with
  | ind m ih =>
  intro i n ys s₀ s σ1 H w hn hI hst hfn
  have stat : ∀ {acc : Array Value} {c : Nat} {σ' : L2.St} {H' : Hp} {s' : Shared}, Inv (gxc X (x :: fr) ce A sc H0 fp pn) [(S, lstObj acc c)] σ' H' s' → (∀ b ∈ fp, H' b = none) → ∀ b ∈ fp, FpOk (gxc X (x :: fr) ce A sc H0 fp pn) [(S, lstObj acc c)] H' b := fun {acc c σ' H' s'} I' hn b hb =>
    ⟨hn b hb, (I'.ok.exf b hb).1, I'.ok.exfs b hb, .inl hb, fun x c e => (I'.ok.exf b hb).2 x c e, fun p hp z => by
      rcases List.mem_append.mp hp with hp | hp
      · exact hpf p hp (z ▸ hb)
      · rcases List.mem_cons.mp hp with hp | hp
        · rw [hp] at z; exact hfS b hb z.symm
        · cases hp⟩
  show Seg _ A _ _ _ s₀ _ ((compTurn (gxE elt (.Name x px) iter scope pos) 0 (.ref it) .none ce).onRaise (leaving ce)) [] s
  rw [compTurn_gen, Sem.onRaise_eq_wrap]
  refine seg_bind_wrap (wpAny_standAt ?_)
  obtain ⟨acc, c, r, I⟩ := hI
  rcases hW m i ys H w with ⟨stop, q⟩ | ⟨go, hlt, Nx, hNx, step⟩
  · refine seg_bind_wrap ?_
    rw [over_gxl]
    have td := T.done (gxc X (x :: fr) ce A sc H0 fp pn) rfl rfl rfl rfl i [(S, lstObj acc c)] s _ H (fun _ _ => False) I (stat I hfn) hst stop
    refine wpAny_mono td (fun rr s6 ⟨hr, I6⟩ => ?_) (fun _ _ z => z.elim)
    subst hr
    exact seg_end (.ok .next) ⟨rfl, ys, _, H, hn, ⟨acc, c, r, I6⟩, q⟩
  · obtain ⟨n, rfl⟩ : ∃ k, n = k + 1 := ⟨n - 1, by omega⟩
    refine seg_bind_wrap ?_
    rw [over_gxl]
    have ti := T.item (gxc X (x :: fr) ce A sc H0 fp pn) rfl rfl rfl rfl i [(S, lstObj acc c)] s _ H (fun _ _ => False) I (stat I hfn) hst go
    refine wpAny_mono ti (fun rr s6 ⟨u, hr, h6⟩ => ?_) (fun _ _ z => z.elim)
    subst hr
    refine seg_bind_wrap ?_
    rw [over_gxl]
    refine wpAny_mono h6 (fun _ s7 ⟨y, H7, I7, r7, y7, st7, n7⟩ => ?_) (fun _ _ z => z.elim)
    have I7' := I7.pinned (stat I7 n7) (T.obj _ _ st7)
    refine seg_bind_wrap ?_
    rw [over_gxl]
    have pg : PG (gxc X (x :: fr) ce A sc H0 fp pn) (.Name x px) (gName 0) := pg_name (i := 0) hN rfl (.inl hxl) (.inr hxl)
    refine wpAny_mono (pg.run _ s7 _ H7 y u (fun σ' H' => σ' = some y :: ws ∧ H' = H7) I7' r7 ⟨rfl, rfl⟩) (fun _ s8 ⟨σ8, H8, I8, e1, e2⟩ => ?_) (fun _ _ z => False.elim z)
    subst e1 e2
    refine seg_bind_wrap ?_
    refine wpAny_of_eq (a := true) (by first | rfl | simp only [List.forIn_nil]) ?_
    simp only [if_true]
    have hy : ∀ v, yieldOut ce v = yieldValue v := fun v => by simp only [yieldOut, hco, Bool.false_eq_true, if_false]
    simp only [hy]
    rw [Sem.bind_eq_wrap', Sem.bind_eq_wrap', Sem.wrap_wrap, Sem.wrap_wrap]
    refine seg_wrap ?_
    rw [over_gxl]
    refine wpAny_mono (he.run _ s8 _ H8 _ I8 (step y H8 y7)) (fun z s9 ⟨zv, H9, I9, r9, q9⟩ => ?_) (fun _ _ z => False.elim z)
    have G9 : GI (gxc X (x :: fr) ce A sc H0 fp pn) S (pinsAt fp s7.heap) ys (some y :: ws) H9 s9 := ⟨acc, c, r, I9⟩
    have hip : ∀ p ∈ pinsAt fp s7.heap, p.1 ≠ S := fun p hp => hfS p.1 (of_pinsAt hp).1
    refine seg_at (seg_yield rfl rfl rfl ⟨ys, zv, pinsAt fp s7.heap, _, H9, hn, r9, G9, fun s'' sl => ?_⟩)
    have G2 := G9.woken hpS hip hA r9 sl
    obtain ⟨m', hm, w'⟩ := hNx _ _ q9
    have fp2 : ∀ b ∈ fp, (∀ o, s7.heap.get? b = some o → s''.heap.get? b = some o) ∧ H9 b = none := fun b hb => by
      obtain ⟨o, eo, _⟩ := T.obj _ _ st7 b hb
      obtain ⟨acc2, c2, _, I2⟩ := G2
      have pin := I2.pin (b, o) (List.mem_append_right _ (List.mem_cons_of_mem _ (mem_pinsAt hb eo)))
      refine ⟨fun o' e => ?_, pin.2.1⟩
      rw [eo] at e
      cases e
      exact pin.1
    have G3 : GI (gxc X (x :: fr) ce A sc H0 fp pn) S [] (ys ++ [zv]) (some y :: ws) H9 s'' := by
      obtain ⟨acc2, c2, r2, I2⟩ := G2
      exact ⟨acc2, c2, r2, I2.pins_of fun p hp => I2.pin p (List.mem_append_right _ (by
        rcases List.mem_cons.mp hp with hp | hp
        · rw [hp]; exact List.mem_cons_self
        · cases hp))⟩
    refine seg_again rfl (ih m' hm (i + 1) n _ s'' s'' _ H9 w' ?_ G3 (T.keep _ _ _ st7 fun b hb o e => (fp2 b hb).1 o e) fun b hb => (fp2 b hb).2)
    rw [List.length_append, List.length_singleton]
    omega
theorem seg_gxStart (hN : (x :: fr).Nodup) (hxl : ce.scope.names.lookup x = some .local) (hco : ce.scope.isCoroutine = false) (T : Turn X.prog X.w X.K (.Name x px) J fp it tn) (he : PE (gxc X (x :: fr) ce A sc H0 fp pn) elt te)
    (hpS : ∀ p ∈ pn, p.1 ≠ S) (hfS : ∀ b ∈ fp, b ≠ S) (hpf : ∀ p ∈ pn, p.1 ∉ fp) (hA : Apart (gxc X (x :: fr) ce A sc H0 fp pn) S) {ws : List (Option V)} {Qd : List V → Hp → Prop} {W : Nat → Nat → List V → Hp → Prop} (hW : GxW J te ws Qd W)
    {m n : Nat} {s₀ s : Shared} {σ1 : Option V} {H : Hp} (w : W m 0 [] H) (hn : n = sizeLine) (hI : GI (gxc X (x :: fr) ce A sc H0 fp pn) S [] [] (σ1 :: ws) H s) (hst : tn 0 s.heap) (hfn : ∀ b ∈ fp, H b = none) :
      Seg (model X.prog X.w) A (GxEnd (gxc X (x :: fr) ce A sc H0 fp pn) S Qd) (GY (gxc X (x :: fr) ce A sc H0 fp pn) S) n s₀ (.compStart (gxE elt (.Name x px) iter scope pos) 0 (.ref it) .none ce) ((model X.prog X.w).den (.compStart (gxE elt (.Name x px) iter scope pos) 0 (.ref it) .none ce)) [] s := by
  have loop := seg_gxLoop (iter := iter) (px := px) (scope := scope) (pos := pos) hN hxl hco T he hpS hfS hpf hA hW m 0 n [] s₀ s σ1 H w (by rw [hn]; rfl) hI hst hfn
  show Seg _ A _ _ _ s₀ _ ((compStart (gxE elt (.Name x px) iter scope pos) 0 (.ref it) .none ce).onRaise (leaving ce)) [] s
  unfold compStart
  rw [Sem.onRaise_eq_wrap]
  show Seg _ A _ _ _ s₀ _ ((ask >>= _).wrap _ _ _ _) [] s
  refine seg_bind_wrap (wpAny_askSetting ?_)
  split
  · exact seg_again rfl loop
  · first
      | exact seg_bind_wrap (wpAny_rule (seg_bind_wrap (wpAny_standAt (seg_bind_wrap (T.self _ 0 s _ _ hst (seg_again rfl loop))))))
      | (refine seg_bind_wrap (wpAny_rule ?_); show Seg _ A _ _ _ s₀ _ ((standAt iter.pos >>= _).wrap _ _ _ _) [] s; exact seg_bind_wrap (wpAny_standAt (seg_bind_wrap (T.self _ 0 s _ _ hst (seg_again rfl loop)))))
end

/-! ### the generator is made -/
/-- what the evaluation of a generator expression gives: a generator that has not begun -/
def GMadeG (P : Program) (w : World) (k : Nat) (outer : List Env) (H : Hp) (s : Shared) (ex : List Addr) (Q : List V → Hp → Prop) (u : Value) (s' : Shared) : Prop :=
  ∃ (a : Addr) (g : Nat) (c : Code), u = .ref a ∧ s.heap.objs.size ≤ a ∧ a < s'.heap.objs.size ∧ s'.heap.IsGen a g ∧ s'.gens[g]? = some (.fresh c) ∧ s'.os = s.os ∧ AllBare s'.gens ∧ s'.heap.NoLimit ∧ (∀ b o, s.heap.get? b = some o → s'.heap.get? b = some o) ∧
    ∀ (A : Around) (S : Addr) (s2 : Shared), RoomG k A → A.frames = some outer → s'.heap.objs.size ≤ S → (∀ b o, s'.heap.get? b = some o → s2.heap.get? b = some o) → (∃ c, s2.heap.get? S = some (lstObj #[] c)) → s2.os = s.os → AllBare s2.gens →
      Seg (model P w) A (REnd P w outer H s ex S a g Q fun _ _ _ => False) (YItem s S a g) sizeLine s2 c ((model P w).den c) [] s2
/-- the scope of a generator expression over one name -/
structure GxScope (x : Str) (fr : List Str) (osc sc : Scope) : Prop where
  kind : sc.kind = .function
  co : sc.isCoroutine = false
  nd : (x :: fr).Nodup
  cell : ∀ y ∈ sc.names, y.2 ≠ .cell
  dot : sc.names.lookup (".0" : Str) = some NameKind.local
  loc : sc.names.lookup x = some .local
  free : ∀ y ∈ sc.names, y.2 = .free → y.1 ∈ fr
  frk : ∀ y ∈ fr, sc.names.lookup y = some .free
  made : ∀ y ∈ sc.names, y.2 = .free → osc.names.lookup y.1 = some .cell ∨ osc.names.lookup y.1 = some .free
  frm : ∀ y ∈ fr, (y, NameKind.free) ∈ sc.names
def gxsB (x : Str) (fr : List Str) (osc sc : Scope) : Bool :=
  decide (sc.kind = .function) && !sc.isCoroutine && decide (x :: fr).Nodup && sc.names.all (fun y => !decide (y.2 = .cell)) && decide (sc.names.lookup (".0" : Str) = some NameKind.local) && decide (sc.names.lookup x = some .local) && sc.names.all (fun y => !decide (y.2 = .free) || decide (y.1 ∈ fr)) &&
    fr.all (fun y => decide (sc.names.lookup y = some .free)) && sc.names.all (fun y => !decide (y.2 = .free) || (decide (osc.names.lookup y.1 = some .cell) || decide (osc.names.lookup y.1 = some .free))) && fr.all (fun y => decide ((y, NameKind.free) ∈ sc.names))
theorem gxscope_by {x : Str} {fr : List Str} {osc sc : Scope} (h : gxsB x fr osc sc = true) : GxScope x fr osc sc := by
  unfold gxsB at h
  simp only [Bool.and_eq_true, Bool.not_eq_true', decide_eq_true_eq, List.all_eq_true, Bool.or_eq_true, decide_eq_false_iff_not] at h
  obtain ⟨⟨⟨⟨⟨⟨⟨⟨⟨h1, h2⟩, h3⟩, h4⟩, h5⟩, h6⟩, h7⟩, h8⟩, h9⟩, h10⟩ := h
  exact ⟨h1, h2, h3, h4, h5, h6, fun y hy e => (h7 y hy).elim (fun z => absurd e z) id, h8, fun y hy e => (h9 y hy).elim (fun z => absurd e z) id, h10⟩
section
variable {X : Cx} {fr : List Str} {elt iter : Expr} {x : Str} {px pos : Pos} {scope : Scope} {te : TE} {wi : TI} {k : Nat} {js : List Nat} {c P : Addr}
abbrev gxEnv (X : Cx) (scope : Scope) (C : Addr) (code : Value) : Env := genEnv scope (cloFrom X.env.cells scope.names []) C code builtinsNs X.env
def GxB (J : It) (te : TE) (ws : List (Option V)) (H : Hp) (cont : List V → Hp → Prop) : Prop := ∃ W : Nat → Nat → List V → Hp → Prop, (∃ m, W m 0 [] H) ∧ GxW J te ws cont W
def tGx (P : Addr) (js : List Nat) (wi : TI) (te : TE) : TGen := fun σ H cont => wi σ H fun J H1 => GxR.TabG H1 P ∧ ∀ H2, GxR.Tabbed P H1 H2 → GxB J te (js.map (NdefX.slotAt σ)) H2 cont
/-- the context's start -/
theorem inv_startGx {pins : List (Addr × Obj)} {σ : L2.St} {H : Hp} {s s2 : Shared} {ce : Env} {A : Around} {fp : List Addr} {pn : List (Addr × Obj)} {m : Str → Option Value} (I : Inv X pins σ H s) (G : GxScope x fr X.env.scope scope) (hjs : js.map (fun j => X.N[j]?) = fr.map some)
    (hA : A.handled = none) (hfr : A.frames = some X.stack) (hf : ∀ b ∈ fp, FpOk X pins H b ∧ b < s.heap.objs.size) (code : Value) (hce : ce = gxEnv X scope s.heap.objs.size code) (hk : ∀ b o, s.heap.get? b = some o → s2.heap.get? b = some o) (hns : s2.heap.Ns s.heap.objs.size m)
    (os : s2.os = s.os) (hb : AllBare s2.gens) (hpn : ∀ p ∈ pn, s2.heap.get? p.1 = some p.2 ∧ s.heap.objs.size < p.1 ∧ ∀ v, p.2.data ≠ .cell v) :
    Inv (gxc X (x :: fr) ce A s H fp pn) [] (none :: js.map (NdefX.slotAt σ)) H s2 := by
  subst hce
  have cp : NdefX.Caps X (cloFrom X.env.cells scope.names []) fr js := NdefX.Caps.made I.ok G.made G.frm hjs
  have C := NdefX.cells_of I cp
  have e0 := I.env0
  have cellK : ∀ {c : Addr} {v : Option Value}, s.heap.IsCell c v → s2.heap.IsCell c v := fun {c v} ⟨o, ho, hd⟩ => ⟨o, hk _ _ ho, hd⟩
  have ltC : ∀ y c, (cloFrom X.env.cells scope.names []).lookup y = some c → c < s.heap.objs.size := fun y c e => by
    obtain ⟨_, v, q⟩ := C.all y c e
    exact q.lt
  have stkF : ∀ b, s.heap.objs.size ≤ b → b ∉ frs X.stack := fun b hb z => by
    rcases List.mem_cons.mp (I.stkSub b z) with e | e
    · have h1 := I.lt
      rw [← e] at h1
      exact Nat.lt_irrefl _ (Nat.lt_of_lt_of_le h1 hb)
    · exact I.nofs hb e
  have nfp : ∀ b ∈ fp, b ∉ frs X.stack := fun b hb z => by
    obtain ⟨f, _⟩ := hf b hb
    rcases List.mem_cons.mp (I.stkSub b z) with e | e
    · exact f.2.1 e
    · exact f.2.2.1 e
  refine ⟨⟨e0.mod, G.kind, I.ok.glob, rfl, Nat.le_refl _, C.inj, fun y hy => ?_, fun y c z _ => ?_, fun _ => hA, Around.frames_deeper hfr, .inr ⟨rfl, rfl⟩, fun b z => ⟨?_, fun y c e => ?_⟩, e0.bs, e0.bsz, fun b o e z => ?_,
      fun b z => nfp b z, e0.funs, e0.frf⟩,
    os, hb, Un.kept hk, ⟨m, hns, fun i y v e1 e2 e3 => ?_⟩, fun y c e => ?_, I.hok.fresh (Nat.le_refl _), fun y c e => (C.all y c e).1, fun p hp => ?_, I.hok.kept hk, ?_⟩
  · have hy : scope.names.lookup y = some .cell ∨ scope.names.lookup y = some .free := hy
    rcases hy with hy | hy
    · exact absurd rfl (G.cell _ (PySem.mem_of_lookup hy))
    · obtain ⟨i, hi⟩ := List.mem_iff_getElem?.mp (G.free _ (PySem.mem_of_lookup hy) rfl)
      obtain ⟨c, hc, _⟩ := C.has i y hi
      exact ⟨c, hc⟩
  · have z : false = true := z
    cases z
  · exact Nat.ne_of_lt (hf b z).2
  · exact ((hf b z).1.2.2.2.2.1 y c (cp.sub y c e))
  · obtain ⟨f, _⟩ := hf b z
    rcases f.2.2.2.1 with q | q
    · exact I.ok.noex b o e q
    · exact absurd (Nat.lt_of_lt_of_le (Nat.lt_of_lt_of_le (Heap.lt_size e) I.ok.bsz) q) (Nat.lt_irrefl _)
  · cases i with
    | zero => cases e2
    | succ i =>
      have e1 : fr[i]? = some y := e1
      have e2 : (js.map (NdefX.slotAt σ))[i]? = some (some v) := e2
      obtain ⟨c, hc, hv⟩ := C.has i y e1
      obtain ⟨u, ru, hu⟩ := hv v e2
      exact ⟨u, ru, .inr ⟨.inr (G.frk y (List.mem_of_getElem? e1)), c, hc, cellK hu⟩⟩
  · obtain ⟨v, z⟩ := (C.all y c e).2
    exact ⟨v, cellK z⟩
  · have hp : p ∈ pn := by
      rcases List.mem_append.mp hp with hp | hp
      · exact hp
      · cases hp
    obtain ⟨e, h1, h2⟩ := hpn p hp
    exact ⟨e, I.hok.fresh (Nat.le_of_lt h1), Nat.ne_of_gt h1, stkF _ (Nat.le_of_lt h1), h2⟩
  · show (js.map (NdefX.slotAt σ)).length + 1 = fr.length + 1
    rw [C.len]
theorem gx_run (hh : X.A.handled = none) (hroom : X.A.depth < recursionLimit) (TB : GxR.TabB X.base X.mg c P) (hcode : X.env.code = .ref c) (G : GxScope x fr X.env.scope scope) (hjs : js.map (fun j => X.N[j]?) = fr.map some) (hi : PI X (.Name x px) iter wi)
    (he : ∀ (C : Addr) (code : Value) (A : Around) (sc : Shared) (H0 : Hp) (fp : List Addr) (pn : List (Addr × Obj)), RoomG k (A.deeper (gxEnv X scope C code)) → PE (gxc X (x :: fr) (gxEnv X scope C code) A sc H0 fp pn) elt te)
    (hs : ∀ v, genFold iter X.env v = pure v) {pins : List (Addr × Obj)} {σ : L2.St} {H : Hp} {s : Shared} {cont : List V → Hp → Prop} (I : Inv X pins σ H s) (h : tGx P js wi te σ H cont) :
    wpAny (model X.prog X.w) X.A (eval (gxE elt (.Name x px) iter scope pos) X.env) (fun u s' => ∃ H1 sc ex, Inv X pins σ H1 sc ∧ ExOk X pins ex ∧ GMadeG X.prog X.w (k + 1) X.stack H1 sc ex cont u s') X.xe s := by
  have hfree : ∀ y ∈ scope.names, y.2 = .free → ∃ c, X.env.cells.lookup y.1 = some c := fun y hy e => (G.made y hy e).elim (fun z => I.ok.has _ (.inl z)) fun z => I.ok.has _ (.inr z)
  refine wpAny_GeneratorExp_make G.co (closure_ok hfree) G.cell G.dot G.kind hroom ?_ hs
  refine thn (hi.run pins s σ H _ I h) fun xv s1 hx => thn hx fun itv s2 h2 => ?_
  obtain ⟨it, fp, tn, J, H2, e, I2, T, st2, f2, ⟨ps, hP, ht⟩, q⟩ := h2
  subst e
  have cd : PySem.W.CodeHd s2.heap c P := TB.code.keeps I2.bk
  have hPs : s2.heap.get? P = some { cls := .none, data := .fields ps } := I2.hok P _ hP
  have cont1 : ∀ (code : Value) (h3 : Heap) (tk : Nat) (ps' : Array Value), Heap.ExtBut P s2.heap h3 → s2.heap.objs.size ≤ h3.objs.size → h3.get? P = some { cls := .none, data := .fields ps' } → (∃ more, ps' = ps ++ more) → TriplesOk ps'.toList →
      wpAny (model X.prog X.w) X.A (builtinsFor X.env.globals X.env.builtins) (fun bi s₄ => ∀ h', h'.Ns s₄.heap.objs.size (fun y => if y = ".0" then some (Value.ref it) else none) → Heap.SameBut s₄.heap.objs.size (s₄.heap.push { cls := .type "frame", data := .dict #[] }) h' →
          ∃ H1 sc ex, Inv X pins σ H1 sc ∧ ExOk X pins ex ∧ GMadeG X.prog X.w (k + 1) X.stack H1 sc ex cont (.ref h'.objs.size) { s₄ with
            gens := s₄.gens.push (.fresh (.compStart (gxE elt (.Name x px) iter scope pos) 0 (.ref it) .none (genEnv scope (cloFrom X.env.cells scope.names []) s₄.heap.objs.size code bi X.env))),
            toks := s₄.toks + 1 + 1 + 1,
            heap := h'.push { cls := .type "generator", data := .fields #[.int s₄.gens.size 0, .str "<genexpr>" (s₄.toks + 1), .str (X.env.qual ++ "<genexpr>") (s₄.toks + 1 + 1)] } }) X.xe { s2 with heap := h3, toks := tk } := by
    intro code h3 tk ps' hx hsz hP3 hmore ht3
    obtain ⟨bm, ob, e1, e2, e3, e4, e5, e6, e7, e8⟩ := TB.bm
    refine wpAny_builtinsFor (m := X.mg) (by rw [I2.ok.glob]; exact (I2.mod.glob.keeps I2.bk).extBut hx TB.gP) e1 e2 (hx _ _ e4 (I2.bk _ _ e5)) e6 e7 e8 ?_
    obtain ⟨more, em⟩ := hmore
    intro h' hns hsb
    have I3 := GxR.inv_tab (more := more) (h' := h3) (g' := s2.gens) (d' := s2.drawn) (t' := tk) I2 hP (fun b u hb e => hx b u hb e) (by rw [← em]; exact hP3) I2.bare
    have tb : GxR.Tabbed P H2 (upd H2 P (.tbl (ps ++ more))) := ⟨⟨ps ++ more, upd_same, by rw [← em]; exact ht3⟩, fun b hb => upd_ne hb⟩
    obtain ⟨W, ⟨m, w0⟩, hW⟩ := q _ tb
    have nP : ∀ b, H2 b = none → b ≠ P := fun b e z => by rw [z, hP] at e; cases e
    generalize (upd H2 P (.tbl (ps ++ more))) = H3 at I3 tb w0
    have f3 : ∀ b ∈ fp, FpOk X pins H3 b ∧ b < h3.objs.size := fun b hb => by
      obtain ⟨o, eo, _⟩ := T.obj _ _ st2 b hb
      exact ⟨⟨(tb.2 b (nP b (f2 b hb).1)).trans (f2 b hb).1, (f2 b hb).2⟩, Nat.lt_of_lt_of_le (Heap.lt_size eo) hsz⟩
    have st3 : tn 0 h3 := T.keep _ _ _ st2 fun b hb o e => hx b o (nP b (f2 b hb).1) e
    have sz : h'.objs.size = h3.objs.size + 1 := by rw [hsb.1, Heap.size_push]
    have kp1 : ∀ b o, h3.get? b = some o → h'.get? b = some o := fun b o e => hsb.extBut b o (Nat.ne_of_lt (Heap.lt_size e)) (Heap.get?_push_of_some _ e)
    generalize hgo : ({ cls := .type "generator", data := .fields #[.int ({ s2 with heap := h3, toks := tk } : Shared).gens.size 0, .str "<genexpr>" (tk + 1), .str (X.env.qual ++ "<genexpr>") (tk + 1 + 1)] } : Obj) = go
    have hgc : go.cls = .type "generator" := by rw [← hgo]
    have hgd0 : ∃ nm qn, go.data = .fields #[.int s2.gens.size 0, nm, qn] := ⟨_, _, by rw [← hgo]⟩
    have hgs : go.slots = #[] := by rw [← hgo]
    have hgf : ∀ h : Heap, (h.push go).get? h.objs.size = some go := fun h => by rw [← hgo]; exact Heap.get?_push_size _ rfl
    have hgd : ∀ v, go.data ≠ .cell v := fun v z => by obtain ⟨_, _, z2⟩ := hgd0; rw [z2] at z; cases z
    have kp2 : ∀ b o, h3.get? b = some o → (h'.push go).get? b = some o := fun b o e => Heap.get?_push_of_some _ (kp1 b o e)
    have hgen : ∀ h : Heap, h.get? h'.objs.size = some go → h.IsGen h'.objs.size s2.gens.size := fun h e => by obtain ⟨nm, qn, z⟩ := hgd0; exact ⟨go, nm, qn, e, hgc, z, hgs⟩
    refine ⟨H3, { s2 with heap := h3, toks := tk }, fp, I3, fun b hb => ⟨(f3 b hb).1.2.2.2.1, (f3 b hb).1.2.1, (f3 b hb).1.2.2.2.2.1, (f3 b hb).1.2.2.2.2.2⟩, h'.objs.size, s2.gens.size, _, rfl, ?_, ?_, hgen _ (hgf _), Array.getElem?_push_size .., rfl, AllBare.push I2.bare rfl, I3.nolimit.keeps kp2, kp2, ?_⟩
    · show h3.objs.size ≤ h'.objs.size
      omega
    · show h'.objs.size < (h'.push go).objs.size
      rw [Heap.size_push]; exact Nat.lt_succ_self _
    intro A S s5 hrA hfrA hS hk5 hSo hos hba
    have hS : (h'.push go).objs.size ≤ S := hS
    rw [Heap.size_push] at hS
    have kp5 : ∀ b o, h3.get? b = some o → s5.heap.get? b = some o := fun b o e => hk5 b o (kp2 b o e)
    have hga : s5.heap.get? h'.objs.size = some go := hk5 _ _ (hgf _)
    have hns5 : s5.heap.Ns h3.objs.size (fun y => if y = ".0" then some (Value.ref it) else none) := hns.keeps fun b o e => hk5 b o (Heap.get?_push_of_some _ e)
    have I4 := inv_startGx (X := X) (fp := fp) (pn := [(h'.objs.size, go)]) (A := A) (s2 := s5) I3 G hjs hrA.room.hd hfrA f3 code rfl kp5 hns5 hos hba (fun p hp => by
      rw [List.mem_singleton.mp hp]
      exact ⟨hga, by show h3.objs.size < h'.objs.size; omega, hgd⟩)
    obtain ⟨cS, heS⟩ := hSo
    have stkF : ∀ b, h3.objs.size ≤ b → b ∉ frs X.stack := fun b hb z => by
      rcases List.mem_cons.mp (I3.stkSub b z) with e | e
      · have h1 := I3.lt
        rw [← e] at h1
        exact Nat.lt_irrefl _ (Nat.lt_of_lt_of_le h1 hb)
      · exact I3.nofs hb e
    have hGI : GI (gxc X (x :: fr) (gxEnv X scope h3.objs.size code) A { s2 with heap := h3, toks := tk } H3 fp [(h'.objs.size, go)]) S [] [] (none :: js.map (NdefX.slotAt σ)) H3 s5 := by
      refine ⟨#[], cS, .nil, I4.pins_of fun p hp => ?_⟩
      rw [List.mem_singleton.mp hp]
      exact ⟨heS, I3.hok.fresh (show h3.objs.size ≤ S by omega), Nat.ne_of_gt (show h3.objs.size < S by omega), stkF S (by omega), fun v z => by cases z⟩
    have hAp : Apart (gxc X (x :: fr) (gxEnv X scope h3.objs.size code) A { s2 with heap := h3, toks := tk } H3 fp [(h'.objs.size, go)]) S := by
      refine ⟨by show h3.objs.size ≤ S; omega, Nat.ne_of_gt (show h3.objs.size < S by omega), fun y c e z => ?_⟩
      obtain ⟨v, o, eo, _⟩ := I4.cell y c e
      have hc : (cloFrom X.env.cells scope.names []).lookup y = some c := e
      obtain ⟨_, v2, q2⟩ := (NdefX.cells_of I3 (NdefX.Caps.made I3.ok G.made G.frm hjs)).all y c hc
      have lt : c < h3.objs.size := q2.lt
      have z : c = S := z
      rw [z] at lt
      exact absurd (Nat.lt_of_lt_of_le lt (show h3.objs.size ≤ S by omega)) (Nat.lt_irrefl _)
    refine seg_imp (R := GxEnd (gxc X (x :: fr) (gxEnv X scope h3.objs.size code) A { s2 with heap := h3, toks := tk } H3 fp [(h'.objs.size, go)]) S cont) (Y := GY (gxc X (x :: fr) (gxEnv X scope h3.objs.size code) A { s2 with heap := h3, toks := tk } H3 fp [(h'.objs.size, go)]) S) (fun n s₀ r s1' hR => ?_) (fun n s₀ v s1' kap kap' hkk hY => ?_) sizeLine ?_
    · obtain ⟨rfl, ys, σ', H', hn, hI, hQ⟩ := hR
      obtain ⟨a1, _, _, acc, cc, ra, ea⟩ := hI.at
      obtain ⟨_, _, _, J⟩ := hI
      exact .inl ⟨.inr rfl, H', ys, acc, cc, J.os, J.bare, J.base, J.hok, a1, ea, ra, by omega, hQ⟩
    · obtain ⟨ys, xx, ip, σ', H', hn, h2, hI, h3'⟩ := hY
      obtain ⟨_, _, _, acc, cc, ra, ea⟩ := hI.at
      have hg : s1'.heap.IsGen h'.objs.size s2.gens.size := by
        obtain ⟨acc, cc, _, J⟩ := hI
        exact hgen _ (J.pin (h'.objs.size, go) (List.mem_append_left _ (List.mem_singleton.mpr rfl))).1
      obtain ⟨_, _, _, J⟩ := hI
      have hsz : acc.size = ys.length := by
        have e1 := ra.length
        have e2 : acc.toList.length = acc.size := by simp
        omega
      exact ⟨J.os, J.bare, J.nolimit, hg, ⟨acc, cc, ea, by rw [hsz]; exact hn⟩, fun s' z => hkk _ _ (h3' s' z)⟩
    · refine seg_gxStart (X := X) G.nd G.loc G.co T (he _ _ _ _ _ _ _ (hrA.deeper _)) (fun p hp => ?_) (fun b hb => ?_) (fun p hp z => ?_) hAp hW w0 rfl hGI (T.keep _ _ _ st3 fun b _ o e => kp5 b o e) (fun b hb => (f3 b hb).1.1)
      · rw [List.mem_singleton.mp hp]
        exact Nat.ne_of_lt (show h'.objs.size < S by omega)
      · exact Nat.ne_of_lt (Nat.lt_of_lt_of_le (f3 b hb).2 (show h3.objs.size ≤ S by omega))
      · rw [List.mem_singleton.mp hp] at z
        exact absurd (Nat.lt_trans (f3 _ z).2 (show h3.objs.size < h'.objs.size by omega)) (Nat.lt_irrefl _)
  refine ⟨I2.nolimit, ?_⟩
  cases hf : codeAmong pos ps.toList with
  | none =>
    refine wpAny_genexprCodeX hcode (cd.code hPs ht) (cd.tab hPs) hf fun c' h' tk hx hge hlt hco' _ htab' _ => ?_
    obtain ⟨o1, vs, f1, tf, fl, tg, inF, tx, tt, op, _, _, _, _, _, _, _, _, _, htr, _⟩ := hco'
    exact cont1 _ h' tk _ hx (Nat.le_trans hge (Nat.le_of_lt hlt)) htab'.2 ⟨_, rfl⟩ htr
  | some cv =>
    refine wpAny_genexprCode_hit hcode (cd.code hPs ht) hf ?_
    exact cont1 cv s2.heap s2.toks ps (Heap.ExtBut.refl _ _) (Nat.le_refl _) hPs ⟨#[], by simp⟩ ht
end
end Lw

set_option maxRecDepth 100000
set_option maxHeartbeats 4000000
/-! tuple of a generator expression -/
namespace Lw
open PySem PySem.Spec
open PyProof.Rows L2 GenW
theorem RoomG.in1 {k : Nat} {A : Around} (r : RoomG (k + 1) A) : RoomG k A.in1 := ⟨r.room.in1, r.g⟩
theorem RoomG.in4 {k : Nat} {A : Around} (r : RoomG (k + 1) A) : RoomG k A.in1.in1.in1.in1 := ⟨⟨r.room.hd, by have := r.room.dp; show A.depth + 3 * k + 5 < _; omega, by have := r.room.un; show A.units + 1 + 1 + 1 + 1 + 16 * k + 200 < _; omega⟩, r.g⟩
section
variable {P : Program} {w : World} {s : Shared} {A : Around} {E : Value → Shared → Prop} {a g : Addr}
/-- the loop's end: the list at S holds what Q' wants -/
def LoopEnd (Q' : List Value → Shared → Prop) (S : Addr) (r : Result) (t : Shared) : Prop := r = .ok (.ret (.ref S)) ∧ ∃ acc c, t.heap.get? S = some (lstObj acc c) ∧ Q' acc.toList t
/-- what collects a generator comes to the loop that fills a new list -/
theorem collect_loop {Q' : List Value → Shared → Prop} {g : Nat} (hg : s.heap.IsGen a g) (hlt : a < s.heap.objs.size)
    (hQ : ∀ (c : Nat) (h4 : Heap), (∀ b o, s.heap.get? b = some o → h4.get? b = some o) → h4.get? s.heap.objs.size = some (lstObj #[] c) →
      codeAny (model P w) A (.builtin "list.extend.loop" ⟨[.ref s.heap.objs.size, .ref a, .ref s.heap.objs.size], []⟩) (LoopEnd Q' s.heap.objs.size) { s with heap := h4 }) : wpAny (model P w) A (collect (.ref a)) Q' E s := by
  generalize hS : s.heap.objs.size = S at hQ hlt
  have old : ∀ {b o}, s.heap.get? b = some o → b ≠ S := fun {b o} e => hS ▸ Nat.ne_of_lt (Heap.lt_size e)
  have touch : ∀ {h : Heap} {f : Obj → Obj}, (∀ b o, s.heap.get? b = some o → h.get? b = some o) → ∀ b o, s.heap.get? b = some o → (h.update S f).get? b = some o := fun k b o e => (Heap.get?_update_other _ _ (old e).symm).trans (k b o e)
  let l0 : Obj := { cls := .type "list", data := .seq ([] : List Value).toArray }
  have e1 : (s.heap.push l0).get? S = some l0 := hS ▸ Heap.get?_push_size (o := l0) _ rfl
  have k1 : ∀ b o, s.heap.get? b = some o → (s.heap.push l0).get? b = some o := fun b o e => Heap.get?_push_of_some _ e
  have gen1 : (s.heap.push l0).IsGen a g := hg.keeps k1
  have other : Builtin.List.listSameRef (.ref S) (.ref a) = false := by simp [Builtin.List.listSameRef, Ne.symm (Nat.ne_of_lt hlt)]
  have e2 := Heap.get?_update_self (Obj.mapSeq (·.push Value.none)) e1 rfl
  have e3 := Heap.get?_update_self (Obj.mapSeq (·.pop)) e2 rfl
  have fill : wpAny (model P w) A.in1 (Builtin.List.listExtendWith (.ref S) (.ref a) (.ref S)) (fun fin t => match fin with
      | .done f => LoopEnd Q' S (.ok f) t
      | .again c => c.quiet = true ∧ codeAny (model P w) A c (LoopEnd Q' S) t) (fun e t => LoopEnd Q' S (.error e) t) { s with heap := s.heap.push l0 } := by
    have T : ({ s with heap := s.heap.push l0 } : Shared).TypeIs (.ref a) "generator" := Heap.IsGen.typeIs (s := { s with heap := s.heap.push l0 }) gen1
    unfold Builtin.List.listExtendWith; refine wpAny_bind (wpAny_typeOf T ?_)
    simp only [other, (by decide : (Value.type "generator" == Value.type "list") = false), (by decide : (Value.type "generator" == Value.type "tuple") = false), Bool.or_false, Bool.false_eq_true, if_false]
    refine wpAny_bind (wpAny_pyIter_gen (s := { s with heap := s.heap.push l0 }) gen1 (wpAny_bind (wpAny_holding ?_)))
    unfold Builtin.List.listLengthHint; refine wpAny_bind (wpAny_specialOf T F.gen_no_len (?_ : wpAny _ A.in1 (specialOf (Value.ref a) (Str.ofString "__length_hint__") >>= _) _ _ _))
    refine wpAny_bind (wpAny_specialOf T F.gen_no_hint (wpAny_pure ?_))
    refine wpAny_bind (m := rule "list.extend.makes-room") (wpAny_rule (wpAny_bind (m := Builtin.List.listTouch (.ref S)) ?_))
    refine wpAny_bind (m := updateSeq S (·.push .none)) (wpAny_updateSeq e1 rfl (wpAny_updateSeq (hz := by seq_fits) e2 rfl (wpAny_pure ⟨plainId_quiet F.plain_extend_loop _, ?_⟩)))
    exact hQ _ _ (touch (touch k1)) e3
  unfold collect
  refine wpAny_bind (wpAny_runValue (codeAny_builtin F.entry_proto_collect (?_ : wpAny _ (A.under _) _ _ _ s)))
  rw [Around.under_plainId F.plain_proto_collect _]
  refine wpAny_bind (m := newList []) (wpAny_newObj_type (wpAny_pure ⟨plainId_quiet F.plain_list_iadd _, codeAny_builtin F.entry_list_iadd (?_ : wpAny _ (A.under _) _ _ _ _)⟩))
  rw [Around.under_plainId F.plain_list_iadd _, hS]
  refine wpAny_mono fill (fun f t h => ?_) fun e t h => by cases h.1
  cases f with
  | done f =>
    obtain ⟨e, acc, c, eo, q⟩ := h
    cases e
    exact wpAny_bind (wpAny_load eo (wpAny_pure q))
  | again c =>
    refine ⟨h.1, codeAny_mono h.2 fun r t ⟨e, acc, c, eo, q⟩ => ?_⟩
    subst e
    exact wpAny_bind (wpAny_load eo (wpAny_pure q))
end
section
variable {P : Program} {w : World} {outer : List Env} {H : Hp} {sc s : Shared} {ex : List Addr} {Q : List V → Hp → Prop} {A : Around} {k : Nat} {u : Value} {E : Value → Shared → Prop}
theorem collect_gx {Q' : List Value → Shared → Prop} (hr : RoomG k A.in1.in1) (hd : A.depth < recursionLimit) (hfr : A.frames = some outer) (h : GMadeG P w k outer H sc ex Q u s)
    (hQ : ∀ (t : Shared) (us : List Value) (H' : Hp) (ys : List V), Vals ys us → ys.length ≤ sizeLine → t.os = sc.os → AllBare t.gens → Un (frs outer) ex H H' sc.heap t.heap → HOk P w H' t.heap → Q ys H' → Q' us t) : wpAny (model P w) A (collect u) Q' E s := by
  obtain ⟨a, g, c, rfl, _, lt, hg, fresh, os, bare, lim, _, wake⟩ := h
  have ltc : cStatics < s.heap.objs.size := by obtain ⟨_, n, _⟩ := lim; exact n.lt
  refine collect_loop hg lt fun c4 h4 k4 e4 => ?_
  refine drain (A := A) (H := H) (sc := sc) (ex := ex) (Q := Q) (EX := fun _ _ _ => False) hr.room.hd hd (Nat.ne_of_gt lt) (Nat.ne_of_gt ltc) (fun t acc c H' ys eo rv hl o b un ok _ q => ⟨rfl, acc, c, eo, hQ t _ H' ys rv hl o b un ok q⟩)
    (fun e t h => by obtain ⟨_, _, _, _, _, _, _, _, _, _, _, _, z⟩ := h; exact z.elim) sizeLine { s with heap := h4 } (hg.keeps k4) (lim.keeps k4) ⟨_, fresh, rfl, wake _ _ _ hr hfr (Nat.le_refl _) k4 ⟨_, e4⟩ os (allBare_setGen (s := { s with heap := h4 }) bare rfl)⟩
end
section
variable {X : Cx} {fr : List Str} {elt iter : Expr} {x : Str} {px p pos gpos : Pos} {scope : Scope} {te : TE} {wi : TI} {k : Nat} {js : List Nat} {c P : Addr}
def tTupGx (tg : TGen) : TE := fun σ H Q => tg σ H fun out H2 => ∀ q, H2 q = none → Q (.ref q) (upd H2 q (.tup out))
/-- tuple(elt for x in iter) -/
theorem pe_tupGx (hr : RoomG (k + 2) X.A) (TB : GxR.TabB X.base X.mg c P) (hcode : X.env.code = .ref c) (G : GxScope x fr X.env.scope scope) (hjs : js.map (fun j => X.N[j]?) = fr.map some) (hi : PI X (.Name x px) iter wi)
    (he : ∀ (C : Addr) (code : Value) (A : Around) (sc : Shared) (H0 : Hp) (fp : List Addr) (pn : List (Addr × Obj)), RoomG k (A.deeper (gxEnv X scope C code)) → PE (gxc X (x :: fr) (gxEnv X scope C code) A sc H0 fp pn) elt te)
    (hg : Gl X "tuple") (hm : X.mg "tuple" = none) (hs : ∀ v, genFold iter X.env v = pure v := by intro _; rfl)
    (he1 : starEach [gxE elt (.Name x px) iter scope gpos] X.env = (false, eval (gxE elt (.Name x px) iter scope gpos) X.env) :: starEach [] X.env := by rfl) :
    PE X (.Call (.Name "tuple" p) [gxE elt (.Name x px) iter scope gpos] [] pos) (tTupGx (tGx P js wi te)) := ⟨fun pins s σ H Q I h => by
  have room : X.A.depth < recursionLimit := by have := hr.room.dp; omega
  refine Call_ (ld_blt I hg hm boot_tuple (PyProof.Rows.callWith_type1 (args_cons (thn (gx_run hr.room.hd room TB hcode G hjs hi he hs I h) fun u s1 ⟨H1, sc, ex, I1, hex, M⟩ => args_nil ?_) he1) he1))
  obtain ⟨a, ea, T⟩ : ∃ a, u = .ref a ∧ s1.TypeIs (.ref a) "generator" := by obtain ⟨a, _, _, e, _, _, hg, _⟩ := M; exact ⟨a, e, hg.typeIs⟩
  subst ea
  refine tuple_by T (by decide) fun E' => collect_gx (k := k + 1) (A := X.A.in1.in1) hr.in4 room I1.ok.frames M fun t us H' ys rv hl o b un ok q => ?_
  exact tup_end (I1.call' (ch := ex) o un ok b hex) rv hl q⟩
end
end Lw

set_option maxRecDepth 100000
set_option maxHeartbeats 4000000
/-! the end of a row whose defs hold generator expressions: their tables may grow -/
namespace Lw
open PySem PySem.Spec
open PyProof.Rows L2
/-- the heap that is told at the law's call: the script, the empty tables -/
def told (K : PySem.W.Frag) (cs : List Addr) (a : Addr) (o : Obj) (ns : List Int) : Hp := fun b =>
  if b ∈ cs then some (.tbl #[]) else if b = a ∧ (K.lookup a).isNone = true then some (.frz o (.lst (ns.map V.int))) else none
def emptyT : Obj := { cls := .none, data := .fields #[] }
/-- all but the tables is nothing or the script -/
def OnlyT (cs : List Addr) (H : Hp) : Prop := (∀ b ∈ cs, H b = some (.tbl #[])) ∧ ∀ b, b ∉ cs → H b = none ∨ ∃ o xs, H b = some (.frz o (.lst xs))
section
variable {P : Program} {w : World} {K : PySem.W.Frag} {mg mb : Str → Option Value} {k : Nat} {fa a : Addr} {fd : FuncData} {x : Str} {sp : Sp} {s1 : Shared} {vs : List Value} {ns : List Int} {ct : List (Addr × Addr)}
theorem law_callGT (KX : K.In s1.heap) (hns : s1.heap.Ns PySem.mainGlobals mg) (hb : s1.heap.Ns builtinsNs mb) (hbb : ∀ x : Str, x ≠ "__name__" → mb x = bootBuiltins x) (hlim : s1.heap.NoLimit) (hg : s1.gens = #[])
    (hT : ∀ p ∈ ct, s1.heap.get? p.2 = some emptyT) (nT : ∀ p ∈ ct, K.lookup p.2 = none) (C : ∀ p ∈ ct, PySem.W.CodeHd s1.heap p.1 p.2)
    (hbm : ∃ (bm : Addr) (ob : Obj), mg "__builtins__" = some (.ref bm) ∧ bm ≠ builtinsNs ∧ s1.heap.get? bm = some ob ∧ ob.cls = .type "module" ∧ ob.dict = some builtinsNs ∧ ob.data = .plain)
    (ha : s1.heap.get? a = some { cls := .type "list", data := .seq vs.toArray }) (hi : IntsAre vs ns) (hl : ns.length ≤ sizeLine) (hr : RoomG k callerA)
    (F : ∀ base : Heap, K.In base → base.Ns PySem.mainGlobals mg → (∀ p ∈ ct, GxR.TabB base mg p.1 p.2) → FnG P w K mg base k fa fd [x] sp) (hbind : ∀ (s : Shared) (u : Value), BindsTo s fd ⟨[u], []⟩ [(x, u)])
    (hsp : ∀ H : Hp, OnlyT (ct.map (·.2)) H → SqL K H a (ns.map V.int) → sp [.ref a] H (fun v _ => v = .bl true) fun _ _ _ => False) :
    codeAny (model P w) callerA (.call (.ref fa) ⟨[.ref a], []⟩) (fun r s2 => r = .ok (.ret (.bool true)) ∧ OldK s1.heap s2.heap ∧ s2.os = s1.os ∧ AllBare s2.gens) s1 := by
  have rv := vals_ints hi
  generalize hso : ({ cls := .type "list", data := .seq vs.toArray } : Obj) = so at ha
  have sd : ∃ n, so.data = .seq vs.toArray n := ⟨_, by rw [← hso]⟩
  have isT : ∀ b ∈ ct.map (·.2), s1.heap.get? b = some emptyT := fun b hb => by
    obtain ⟨p, hp, e⟩ := List.mem_map.mp hb
    exact e ▸ hT p hp
  have aT : a ∉ ct.map (·.2) := fun z => by
    obtain ⟨n, sd⟩ := sd
    have e := (isT a z).symm.trans ha
    rw [← Option.some.inj e] at sd
    cases sd
  have H1 : ∀ b u, told K (ct.map (·.2)) a so ns b = some u → (b ∈ ct.map (·.2) ∧ u = .tbl #[]) ∨ (b ∉ ct.map (·.2) ∧ b = a ∧ K.lookup a = none ∧ u = .frz so (.lst (ns.map V.int))) := fun b u e => by
    unfold told at e
    split at e
    · rename_i hb; cases e; exact .inl ⟨hb, rfl⟩
    · rename_i hb
      split at e
      · rename_i hz; cases e; exact .inr ⟨hb, hz.1, Option.isNone_iff_eq_none.mp hz.2, rfl⟩
      · cases e
  have HT : ∀ b ∈ ct.map (·.2), told K (ct.map (·.2)) a so ns b = some (.tbl #[]) := fun b hb => if_pos hb
  have only : OnlyT (ct.map (·.2)) (told K (ct.map (·.2)) a so ns) := ⟨HT, fun b hb => by
    cases e : told K (ct.map (·.2)) a so ns b with
    | none => exact .inl rfl
    | some u =>
      rcases H1 b u e with ⟨h, _⟩ | ⟨_, _, _, rfl⟩
      · exact absurd h hb
      · exact .inr ⟨_, _, rfl⟩⟩
  have hok : HOk P w (told K (ct.map (·.2)) a so ns) s1.heap := fun b u e => by
    rcases H1 b u e with ⟨hb, rfl⟩ | ⟨_, rfl, _, rfl⟩
    · exact isT b hb
    · exact ⟨ha, by rw [List.length_map]; exact hl, vs, _, rv, by rw [ha, ← hso]⟩
  have hS : SqL K (told K (ct.map (·.2)) a so ns) a (ns.map V.int) := by
    cases e : K.lookup a with
    | none => exact .inl (.inr ⟨so, by unfold told; rw [if_neg aT, if_pos ⟨rfl, by rw [e]; rfl⟩]⟩)
    | some o =>
      have e2 := KX a o e
      rw [ha] at e2
      cases e2
      exact .inr ⟨so, vs.toArray, _, e, by rw [← hso], by rw [← hso], by rw [← hso], by rw [List.size_toArray, hi.length]; exact hl, by simpa using rv⟩
  generalize told K (ct.map (·.2)) a so ns = H at H1 HT only hok hS
  -- what is no list and no table is untold
  have off : ∀ {b : Addr} {o : Obj}, s1.heap.get? b = some o → (∀ n, o.data ≠ .seq vs.toArray n) → o.data ≠ .fields #[] → H b = none := fun {b o} e n1 n2 => by
    cases z : H b with
    | none => rfl
    | some u =>
      rcases H1 b u z with ⟨hb, _⟩ | ⟨_, rfl, _, _⟩
      · have e2 := (isT b hb).symm.trans e
        exact (n2 (by rw [← Option.some.inj e2]; rfl)).elim
      · obtain ⟨n, sd⟩ := sd
        have e2 := ha.symm.trans e
        exact (n1 n (by rw [← Option.some.inj e2]; exact sd)).elim
  have dic : ∀ {b : Addr} {o : Obj} {es : Array DictEntry} {ep : Nat}, s1.heap.get? b = some o → o.data = .dict es ep → H b = none := fun e d => off e (fun n z => by rw [d] at z; cases z) fun z => by rw [d] at z; cases z
  have names : ∀ {b : Addr} {m : Str → Option Value}, s1.heap.Ns b m → (hidT s1.heap H).Ns b m := fun {b m} ⟨o, es, ep, e, d, r⟩ => ⟨o, es, ep, hidT_get e (dic e d), d, r⟩
  have inB : K.In (hidT s1.heap H) := fun b o e => hidT_get (KX b o e) (by
    cases z : H b with
    | none => rfl
    | some u =>
      rcases H1 b u z with ⟨hb, _⟩ | ⟨_, rfl, n, _⟩
      · obtain ⟨p, hp, ep⟩ := List.mem_map.mp hb
        rw [← ep, nT p hp] at e
        cases e
      · rw [n] at e; cases e)
  have hM : L2.Mod K mg (hidT s1.heap H) := ⟨inB, names hns, ⟨mb, names hb, hbb⟩, by obtain ⟨mc, h1, h2⟩ := hlim; exact ⟨mc, names h1, h2⟩⟩
  have tabs : ∀ p ∈ ct, GxR.TabB (hidT s1.heap H) mg p.1 p.2 := fun p hp => by
    refine ⟨?_, ?_, fun z => ?_⟩
    · obtain ⟨o, us, f1, f2, f3, f4, f5, f6, f7, e1, r1, r2, r3, r4⟩ := C p hp
      exact ⟨o, us, f1, f2, f3, f4, f5, f6, f7, hidT_get e1 (off e1 (fun n z => by rw [r2] at z; cases z) fun z => by rw [r2] at z; cases z; simp at r3), r1, r2, r3, r4⟩
    · obtain ⟨bm, ob, b1, b2, b3, b4, b5, b6⟩ := hbm
      refine ⟨bm, ob, b1, b2, fun q => ?_, fun q => ?_, hidT_get b3 (off b3 (fun n z => by rw [b6] at z; cases z) fun z => by rw [b6] at z; cases z), b4, b5, b6⟩
      · obtain ⟨o, es, ep, e, d, _⟩ := hns
        rw [q, e] at b3
        cases b3
        rw [d] at b6
        cases b6
      · have e := hT p hp
        rw [← q, b3] at e
        cases e
        cases b6
    · obtain ⟨o, es, ep, e, d, _⟩ := hns
      have e2 := hT p hp
      rw [← z, e] at e2
      cases e2
      cases d
  have e0 : Env0 P w K mg (hidT s1.heap H) callerA [] s1 H := ⟨rfl, hM, fun b o e => of_hidT e, Nat.le_of_eq (hidT_size _ _), trivial, (fun b hb => nomatch (show b ∈ ([] : List Addr) from hb)), hok, .of_eq hg⟩
  refine codeAny_mono ((F _ inB (names hns) tabs).run callerA [] s1 H ⟨[.ref a], []⟩ [.ref a] [.ref a] _ _ hr e0 (hbind s1 (.ref a)) (.cons rfl .nil) (hsp H only hS)) fun r s2 h => ?_
  cases r with
  | error e => exact False.elim h
  | ok fl =>
    cases fl with
    | next => exact False.elim h
    | brk => exact False.elim h
    | cont => exact False.elim h
    | ret u =>
      obtain ⟨v, H2, os, bare, un, hok2, r2, q⟩ := h
      have q2 : v = .bl true := q
      subst q2
      obtain rfl : u = Value.bool true := r2
      have stays : ∀ b o, b ∉ ct.map (·.2) → s1.heap.get? b = some o → s2.heap.get? b = some o := fun b o nb e => by
        rcases only.2 b nb with z | ⟨ob, xs, z⟩
        · exact un.keep b o e z (fun m => nomatch (show b ∈ ([] : List Addr) from m)) (fun m => nomatch m)
        · obtain ⟨e1, _⟩ := hok b _ z
          obtain ⟨e2, _⟩ := hok2 b _ (un.frzs b ob _ z)
          rw [e] at e1
          cases e1
          exact e2
      have grew : ∀ p ∈ ct, ∃ more : Array Value, s2.heap.get? p.2 = some { cls := .none, data := .fields more } := fun p hp => by
        obtain ⟨more, z⟩ := un.tbls p.2 #[] (HT _ (List.mem_map.mpr ⟨p, hp, rfl⟩))
        exact ⟨_, hok2 p.2 _ z⟩
      refine ⟨rfl, ⟨fun b o e => ?_, fun b o e => ?_⟩, os, bare⟩
      · by_cases nb : b ∈ ct.map (·.2)
        · obtain ⟨p, hp, ep⟩ := List.mem_map.mp nb
          obtain ⟨more, hm⟩ := grew p hp
          subst ep
          rw [hT p hp] at e
          cases e
          exact .inr (.inl ⟨((C p hp).tab (hT p hp)).isCodeTable, rfl, #[], more, rfl, by rw [Array.empty_append]; exact hm⟩)
        · exact .inl (stays b o nb e)
      · by_cases nb : b ∈ ct.map (·.2)
        · obtain ⟨p, hp, ep⟩ := List.mem_map.mp nb
          obtain ⟨more, hm⟩ := grew p hp
          subst ep
          exact ⟨_, hm⟩
        · exact ⟨o, stays b o nb e⟩
end
/-- the def y stands at f in K, its code object at c, the table of that at P, which K doesn't tell -/
structure TabIn (K : PySem.W.Frag) (mg : Str → Option Value) (y : Str) (c P : Addr) : Prop where
  ex : ∃ (f : Addr) (o : Obj) (fd : FuncData), mg y = some (.ref f) ∧ K.lookup f = some o ∧ o.data = .func fd ∧ fd.code = .ref c
  hd : PySem.W.codeHdIn K c P = true
  out : K.lookup P = none
theorem tab_empty {p : Program} {loose : List Str} {mean : ExcName → Option Value} {mg mb : Str → Option Value} {h : Heap} {K : PySem.W.Frag} {y : Str} {c P : Addr} (T : Top p loose mean mg mb h) (KX : K.In h) (hrec : ((recsOf p).any fun e => e.name == y) = true) (t : TabIn K mg y c P) : h.get? P = some emptyT := by
  obtain ⟨f, o, fd, m, lk, hd, hc⟩ := t.ex
  obtain ⟨d, hm, hn⟩ := List.any_eq_true.mp hrec
  obtain ⟨f2, o2, fd2, c2, P2, m2, g2, d2, k2, _, tb⟩ := T.tab d hm
  rw [beq_iff_eq.mp hn, m] at m2
  cases m2
  rw [KX _ _ lk] at g2
  cases g2
  rw [hd] at d2
  cases d2
  rw [hc] at k2
  cases k2
  obtain ⟨⟨oc, vc, e1, _, e3, e4⟩, hP⟩ := tb
  have C := PySem.W.codeHd_of_K KX t.hd
  obtain ⟨oc2, us, _, _, _, _, _, _, _, e5, _, r2, r3, _⟩ := C
  rw [e1] at e5
  cases e5
  rw [e3] at r2
  cases r2
  rw [e4] at r3
  cases r3
  exact hP
theorem walk_ofGT {l : PySem.W.OpenLaw} {n k : Nat} {q : Program} {loose : List Str} {XP : (Str → Option Value) → Heap → Prop} {YP : World → Heap → Prop} {d : DefRec} {K : Params → PySem.W.Frag} {sp : World → Sp} {x : Str} {cs : List Addr}
    (hn : l.most = some n) (hn2 : n ≤ sizeLine) (hdf : d.params.defaults = []) (hr : RoomG k callerA) (hY : ∀ (w : World) (h : Heap), YP w h → (K w.params).In h) (names : List Str) (hrec : (names.all fun y => (recsOf q).any fun e => e.name == y) = true)
    (F : ∀ (w : World) (mg : Str → Option Value) (fa : Addr) (h : Heap), (K w.params).In h → h.Ns PySem.mainGlobals mg → mg d.name = some (.ref fa) →
      ∃ (fd : FuncData) (ct : List (Addr × Addr)), ct.map (·.2) = cs ∧ (∀ (s : Shared) (u : Value), BindsTo s fd ⟨[u], []⟩ [(x, u)]) ∧ (∀ p ∈ ct, ∃ y ∈ names, TabIn (K w.params) mg y p.1 p.2) ∧
        ∀ base : Heap, (K w.params).In base → base.Ns PySem.mainGlobals mg → (∀ p ∈ ct, GxR.TabB base mg p.1 p.2) → FnG l.prog w (K w.params) mg base k fa fd [x] (sp w))
    (hsp : ∀ (w : World) (H : Hp) (a : Addr) (ns : List Int), ns.length ≤ n → OnlyT cs H → SqL (K w.params) H a (ns.map V.int) → sp w [.ref a] H (fun v _ => v = .bl true) fun _ _ _ => False) :
    PySem.W.WalkO q loose XP YP l.row.toRowW d [] (PySem.call · ·) := by
  refine Att.attach_call hn hdf fun w s0 s1 mg mb fa o pm cd doc a vs ns G Y ho hd hcd hmg hobj hints hlen hg => ?_
  have KX := hY w _ Y
  obtain ⟨fd, ct, rfl, hb, ht, hF⟩ := F w mg fa _ KX G.T.g hmg
  refine law_callGT KX G.T.g G.T.b G.T.builtins G.T.nolimit hg (fun p hp => ?_) (fun p hp => ?_) (fun p hp => ?_) G.T.bmain hobj hints (Nat.le_trans hlen hn2) hr hF hb fun H hO hS => hsp w H a ns hlen hO hS
  · obtain ⟨y, hy, t⟩ := ht p hp
    exact tab_empty G.T KX (List.all_eq_true.mp hrec y hy) t
  · obtain ⟨_, _, t⟩ := ht p hp
    exact t.out
  · obtain ⟨_, _, t⟩ := ht p hp
    exact PySem.W.codeHd_of_K KX t.hd
end Lw

set_option maxRecDepth 100000
set_option maxHeartbeats 4000000
/-! replacing variables by terms -/
namespace Lw
open PySem PySem.Spec
open PyProof.Rows L2
mutual
def Tm.sub (θ : Int → Option Tm) : Tm → Tm
  | .var i => (θ i).getD (.var i)
  | .app n ts => .app n (Tm.subs θ ts)
def Tm.subs (θ : Int → Option Tm) : List Tm → List Tm
  | [] => []
  | t :: r => t.sub θ :: Tm.subs θ r
end
theorem Tm.sub_var (θ : Int → Option Tm) (i : Int) : (Tm.var i).sub θ = (θ i).getD (.var i) := by rw [Tm.sub]
theorem Tm.sub_app (θ : Int → Option Tm) (n : Str) (ts : List Tm) : (Tm.app n ts).sub θ = .app n (Tm.subs θ ts) := by rw [Tm.sub]
theorem Tm.subs_map (θ : Int → Option Tm) : ∀ ts : List Tm, Tm.subs θ ts = ts.map (Tm.sub θ)
  | [] => by rw [Tm.subs]; rfl
  | t :: r => by rw [Tm.subs, Tm.subs_map θ r]; rfl
mutual
theorem Tm.sub_size {θ : Int → Option Tm} {m : Nat} (hm : 1 ≤ m) (h : ∀ i t, θ i = some t → t.size ≤ m) : ∀ t : Tm, (t.sub θ).size ≤ t.size * m
  | .var i => by
    rw [Tm.sub_var, Tm.size_var, Nat.one_mul]
    cases e : θ i with
    | none => show (Tm.var i).size ≤ m; rw [Tm.size_var]; exact hm
    | some t => exact h i t e
  | .app n ts => by
    have := Tm.subs_size hm h ts
    rw [Tm.sub_app, Tm.size_app, Tm.size_app, Nat.add_mul]
    omega
theorem Tm.subs_size {θ : Int → Option Tm} {m : Nat} (hm : 1 ≤ m) (h : ∀ i t, θ i = some t → t.size ≤ m) : ∀ ts : List Tm, Tm.sizes (Tm.subs θ ts) ≤ Tm.sizes ts * m
  | [] => by rw [Tm.subs, Tm.sizes_nil]; omega
  | t :: r => by
    have h1 := Tm.sub_size hm h t
    have h2 := Tm.subs_size hm h r
    rw [Tm.subs, Tm.sizes_cons, Tm.sizes_cons, Nat.add_mul]
    omega
end
mutual
theorem Tm.sub_depth {θ : Int → Option Tm} {b : Nat} (h : ∀ i t, θ i = some t → t.depth ≤ b + 1) : ∀ t : Tm, (t.sub θ).depth ≤ t.depth + b
  | .var i => by
    rw [Tm.sub_var, Tm.depth_var]
    cases e : θ i with
    | none => show (Tm.var i).depth ≤ _; rw [Tm.depth_var]; omega
    | some t => have := h i t e; show t.depth ≤ _; omega
  | .app n ts => by
    have := Tm.subs_depth h ts
    rw [Tm.sub_app, Tm.depth_app, Tm.depth_app]
    omega
theorem Tm.subs_depth {θ : Int → Option Tm} {b : Nat} (h : ∀ i t, θ i = some t → t.depth ≤ b + 1) : ∀ ts : List Tm, Tm.depths (Tm.subs θ ts) ≤ Tm.depths ts + b
  | [] => by rw [Tm.subs, Tm.depths_nil]; omega
  | t :: r => by
    have h1 := Tm.sub_depth h t
    have h2 := Tm.subs_depth h r
    rw [Tm.subs, Tm.depths_cons, Tm.depths_cons]
    omega
end
mutual
theorem Tm.sub_nice {θ : Int → Option Tm} (h : ∀ i t, θ i = some t → t.Nice) : ∀ t : Tm, t.Nice → (t.sub θ).Nice
  | .var i, hn => by
    rw [Tm.sub_var]
    cases e : θ i with
    | none => exact hn
    | some t => exact h i t e
  | .app n ts, hn => by
    rw [Tm.nice_app] at hn
    rw [Tm.sub_app, Tm.nice_app]
    exact ⟨hn.1, Tm.subs_nice h ts hn.2⟩
theorem Tm.subs_nice {θ : Int → Option Tm} (h : ∀ i t, θ i = some t → t.Nice) : ∀ ts : List Tm, Tm.Nices ts → Tm.Nices (Tm.subs θ ts)
  | [], _ => by rw [Tm.subs]; exact Tm.nices_nil
  | t :: r, hn => by
    rw [Tm.nices_cons] at hn
    rw [Tm.subs, Tm.nices_cons]
    exact ⟨Tm.sub_nice h t hn.1, Tm.subs_nice h r hn.2⟩
end
/-- the dict holds what θ says of ints -/
def TblAt (H : Hp) (kvs : List (Key × V)) (θ : Int → Option Tm) : Prop := ∀ i, (valV kvs (Sum.inl i) = none ∧ θ i = none) ∨ ∃ u t, valV kvs (Sum.inl i) = some u ∧ θ i = some t ∧ At H u t
theorem TblAt.keep {H H' : Hp} {kvs : List (Key × V)} {θ : Int → Option Tm} (h : TblAt H kvs θ) (k : KeepT H H') : TblAt H' kvs θ := fun i => by
  rcases h i with h | ⟨u, t, h1, h2, h3⟩
  · exact .inl h
  · exact .inr ⟨u, t, h1, h2, h3.keep k⟩
theorem TblAt.nil {H : Hp} : TblAt H [] fun _ => none := fun i => .inl ⟨rfl, rfl⟩
theorem TblAt.put {H : Hp} {kvs : List (Key × V)} {θ : Int → Option Tm} (h : TblAt H kvs θ) {i : Int} {u : V} {t : Tm} (a : At H u t) : TblAt H (putK kvs (Sum.inl i) u) fun j => if j = i then some t else θ j := fun j => by
  rw [valV_put]
  by_cases e : j = i
  · rw [if_pos (by rw [e])]
    exact .inr ⟨u, t, rfl, if_pos e, a⟩
  · rw [if_neg (fun z => e (Sum.inl.inj z))]
    rcases h j with ⟨h1, h2⟩ | ⟨u2, t2, h1, h2, h3⟩
    · exact .inl ⟨h1, (if_neg e).trans h2⟩
    · exact .inr ⟨u2, t2, h1, (if_neg e).trans h2, h3⟩
/-- a slice t[:1] of a tuple -/
theorem d_sl01 {K : PySem.W.Frag} {H : Hp} {Q : VK} {a : Addr} {y : V} {xs : List V} (h : H a = some (.tup (y :: xs))) (q : ∀ r H1, Kp [] H H1 → H1 r = some (.tup [y]) → Q (.ref r) H1) : rSlA K (.ref a) none (some 1) H Q := by
  have e : cutV (y :: xs) none (some 1) = [y] := by rw [cutV_take _ _ (by decide)]; rfl
  refine ⟨a, _, rfl, sqT h, fun z => ?_, fun _ p hp => ?_⟩
  · have e1 : HT.sIx (y :: xs).length (y :: xs).length (some 1) = 1 := by
      rw [show (1 : Int) = ((1 : Nat) : Int) from rfl, HT.sIx_nat, List.length_cons]; omega
    rw [e1] at z
    have hx : xs = [] := by
      have z2 := z.2
      rw [List.length_cons] at z2
      exact List.length_eq_zero_iff.mp (by omega)
    rw [hx] at h
    exact q a H (Kp.refl _ _) h
  · rw [e]
    exact q p _ (Kp.new hp) upd_same
/-- [f(x) for x in t], f handing back a term -/
theorem lb_tms {K : PySem.W.Frag} {r : Addr} {vs : List V} {ts : List Tm} {σ : L2.St} {i : Nat} {B : Hp} {D : Addr} {Qd : Hp → Prop} {te : TE} (g : Tm → Tm) (hi : i < σ.length) (hD : B D = none) (er : B r = some (.tup vs)) (hn : vs.length ≤ 100000) (a : Ats B vs ts)
    (call : ∀ v t H' (Q : VK), t ∈ ts → At H' v t → Kp [D] B H' → (∀ H'' v', Kp [] H' H'' → At H'' v' (g t) → Q v' H'') → te ((wipe σ [i]).set i (some v)) H' Q)
    (hd : ∀ H' vs', Kp [D] B H' → H' D = some (.lst vs') → Ats H' vs' (ts.map g) → Qd H') : LcB (Itt K r) (gName i) tYes te [i] σ B D Qd := by
  have nr : r ≠ D := ne_of_none er hD
  refine lb_tup (xs := vs) (fun j H' => Kp [D] B H' ∧ ∃ vs' gs, H' D = some (.lst vs') ∧ Ats H' vs' gs ∧ gs = (ts.take j).map g) ⟨Kp.new hD, [], [], upd_same, .nil, rfl⟩ (fun j H' _ h => sqT (h.1.one nr er)) (fun j v H' hv h => ?_) (fun H' h => ?_)
  · obtain ⟨kB, vs', gs, eD, aD, rfl⟩ := h
    obtain ⟨t, et, atm⟩ := a.get hv
    refine ⟨by show ((σ.set i none).set i _).set i none = σ.set i none; rw [List.set_set, List.set_set], ?_⟩
    refine call v t H' _ (List.mem_of_getElem? et) (atm.keep (kB.keepT (no_tup0 hD))) kB fun H2 v2 k2 a2 => ?_
    have eD2 := k2 _ _ (by simp) eD
    have kd : Kp [D] H2 (upd H2 D (.lst (vs' ++ [v2]))) := Kp.put (by simp)
    have l1 := aD.len
    have l2 := a.len
    rw [List.length_map, List.length_take] at l1
    refine ⟨_, eD2, smallL (by omega), (kB.trans (k2.mono (by simp))).trans kd, _, _, upd_same, (kd.ats (no_tup1 eD2) ((k2.ats (by simp) aD).append (.one a2))), ?_⟩
    rw [take_succ_of et, List.map_append]
    rfl
  · obtain ⟨kB, vs', gs, eD, aD, rfl⟩ := h
    rw [a.take_all] at aD
    exact hd H' vs' kB eD aD
theorem no_tupT {H : Hp} {P : Addr} (h : GxR.TabG H P) : ∀ b ∈ [P], ∀ ys, H b ≠ some (.tup ys) := fun b hb ys e => by
  obtain ⟨ps, h, _⟩ := h
  rw [List.mem_singleton.mp hb, h] at e
  cases e
/-- the same of a generator expression; the def's table at P may grow -/
theorem gx_tms {K : PySem.W.Frag} {r P : Addr} {vs : List V} {ts : List Tm} {ws : List (Option V)} {B : Hp} {te : TE} {cont : List V → Hp → Prop} (g : Tm → Tm) (er : B r = some (.tup vs)) (hn : vs.length ≤ 100000) (a : Ats B vs ts) (tb : GxR.TabG B P)
    (call : ∀ v t H' (Q : VK), t ∈ ts → At H' v t → Kp [P] B H' → GxR.TabG H' P → (∀ H'' v', Kp [P] H' H'' → GxR.TabG H'' P → At H'' v' (g t) → Q v' H'') → te (some v :: ws) H' Q)
    (hd : ∀ H' vs', Kp [P] B H' → GxR.TabG H' P → Ats H' vs' (ts.map g) → cont vs' H') : GxB (Itt K r) te ws B cont := by
  have nr : r ≠ P := fun z => no_tupT tb P (by simp) vs (z ▸ er)
  refine ⟨fun m j ys H' => m + j = vs.length ∧ Kp [P] B H' ∧ GxR.TabG H' P ∧ ∃ gs, Ats H' ys gs ∧ gs = (ts.take j).map g, ⟨vs.length, rfl, Kp.refl _ _, tb, [], .nil, rfl⟩, fun m j ys H' ⟨hm, kB, tH, gs, ay, eg⟩ => ?_⟩
  subst eg
  have eH := kB.one nr er
  by_cases hj : j < vs.length
  · obtain ⟨t, et, atm⟩ := a.get (List.getElem?_eq_getElem hj)
    have l1 := ay.len
    rw [List.length_map, List.length_take] at l1
    refine .inr ⟨⟨vs, vs[j], sqT eH, List.getElem?_eq_getElem hj⟩, smallL (by omega), fun ys' H2 => m = (m - 1) + 1 ∧ (m - 1) + (j + 1) = vs.length ∧ Kp [P] B H2 ∧ GxR.TabG H2 P ∧ ∃ gs, Ats H2 ys' gs ∧ gs = (ts.take (j + 1)).map g, fun ys' H2 ⟨h0, h⟩ => ⟨m - 1, by omega, h⟩, fun y H2 hy => ?_⟩
    obtain ⟨rfl, hy⟩ := hy
    have hv := hy vs (sqT eH)
    rw [List.getElem?_eq_getElem hj] at hv
    cases hv
    refine call _ t H2 _ (List.mem_of_getElem? et) (atm.keep (kB.keepT (no_tupT tb))) kB tH fun H3 v3 k3 t3 a3 => ?_
    refine ⟨by omega, by omega, kB.trans k3, t3, _, (k3.ats (no_tupT tH) ay).append (.one a3), ?_⟩
    rw [take_succ_of et, List.map_append]
    rfl
  · have hj2 : j = vs.length := by omega
    subst hj2
    rw [a.take_all] at ay
    exact .inl ⟨⟨vs, sqT eH, Nat.le_refl _⟩, hd H' ys kB tH ay⟩
section
variable {σ : L2.St} {H : Hp} {Q : VK} {td ty tx : TE}
theorem d_din (q : ty σ H fun y H1 => td σ H1 fun x H2 => ∃ a o, x = .ref a ∧ DGet H2 a y o ∧ Q (.bl o.isSome) H2) : tDIn ty td σ H Q := q
theorem d_dget (q : td σ H fun x H1 => ty σ H1 fun y H2 => ∃ a v, x = .ref a ∧ DGet H2 a y (some v) ∧ Q v H2) : tDGet td ty σ H Q := q
theorem d_dget2 (q : td σ H fun x H1 => ∃ a, x = .ref a ∧ IsD H1 a ∧ ty σ H1 fun y H2 => tx σ H2 fun z H3 => ∃ o, DGet H3 a y o ∧ Q (o.getD z) H3) : tDGet2 td ty tx σ H Q := q
end
/-! ### promises -/
def spRepl (d : Nat) : Sp := fun vs H Q _ => ∃ (v : V) (l : Addr) (tm : Tm) (kvs : List (Key × V)) (θ : Int → Option Tm), vs = [v, .ref l] ∧ At H v tm ∧ tm.depth ≤ d ∧ tm.size ≤ 100000 ∧ H l = some (.dK kvs) ∧ TblAt H kvs θ ∧
  ∀ H' v', Kp [] H H' → At H' v' (tm.sub θ) → Q v' H'
def spInst (P : Addr) (d : Nat) : Sp := fun vs H Q _ => ∃ (v : V) (l : Addr) (tm : Tm) (kvs : List (Key × V)) (θ : Int → Option Tm), vs = [v, .ref l] ∧ At H v tm ∧ tm.depth ≤ d ∧ tm.size ≤ 100000 ∧ H l = some (.dK kvs) ∧ TblAt H kvs θ ∧ GxR.TabG H P ∧
  ∀ H' v', Kp [P] H H' → GxR.TabG H' P → At H' v' (tm.sub θ) → Q v' H'
end Lw

set_option maxRecDepth 100000
set_option maxHeartbeats 4000000
/-! defs whose code object is known -/
namespace Lw
open PySem PySem.Spec
open PyProof.Rows L2
section
variable {P : Program} {w : World} {K : PySem.W.Frag} {mg : Str → Option Value} {base : Heap}
/-- .. and its code object stands at c -/
structure DfT (K : PySem.W.Frag) (mg : Str → Option Value) (x : Str) (st : Stmt) (ps : List Str) (c : Addr) : Prop where
  ex : ∃ (f : Addr) (fd : FuncData), Fun K x x st f fd ∧ mg x = some (.ref f) ∧ Binds K fd ps [] ∧ fd.code = .ref c
theorem DfT.df {x : Str} {st : Stmt} {ps : List Str} {c : Addr} (D : DfT K mg x st ps c) : Df K mg x st ps := by
  obtain ⟨f, fd, F, m, b, _⟩ := D.ex
  exact ⟨f, fd, F, m, b⟩
theorem Fun.okT {x qual : Str} {st : Stmt} {f c : Addr} {fd : FuncData} {N ps : List Str} {k : Nat} {sp : Sp} (F : Fun K x qual st f fd) (hc : fd.code = .ref c) (S : FnScope N ps (defScope st)) (len : ∀ vs H Q E, sp vs H Q E → vs.length = ps.length)
    (body : ∀ (A : Around) (outer : List Env) (s : Shared) (H : Hp) (vs : List V) (Q : VK) (E : XK), RoomG k (A.deeper (envOfC qual (defScope st) s.heap.objs.size f (.ref c))) → sp vs H Q E →
      ∃ t, PSs (cxOf CX0 P w K mg base N qual (defScope st) f (.ref c) A outer s H E).nox (defBody st) t ∧ t { nx := fun _ H' => Q .non H', rt := Q } (start N vs) H) : FnG P w K mg base (k + 1) f fd ps sp := by
  obtain ⟨oc, od, kV, doc, pm, an, cdv, ct, osl, rfl, lk, hcd⟩ := id F.ex
  have e : cdv = .ref c := hc
  subst e
  -- the promise of the def whatever its code is, asked for this one alone
  have key : FnG P w K mg base (k + 1) f (PySem.W.fnOf x qual (defArgs st) (defBody st) (defScope st) .none kV doc pm an (.ref c) ct) ps sp := by
    refine ⟨len, fun A outer s H args us vs Q E hr e0 hb rv hsp => ?_⟩
    have kp : ∀ b o, base.get? b = some o → s.heap.get? b = some o := fun b o e => (e0.bs b o e).1
    have inK : K.In s.heap := e0.mod.kin.keeps kp
    have kinds : ∀ y ∈ ps.zip us, (defScope st).names.lookup y.1 = some .local ∨ ((defScope st).names.lookup y.1 = some .cell ∧ ((cellsFrom (s.heap.objs.size + 1) (defScope st).names []).lookup y.1).isSome = true) := fun y hy =>
      (S.par y.1 (List.of_mem_zip hy).1).elim .inl fun c => .inr ⟨c, PySem.W.cellsFrom_some _ _ _ (.inl c)⟩
    refine codeAny_call_function hr.room.depth (inK _ _ lk) rfl S.co S.gen rfl (PySem.W.codeRec_of inK hcd) (hb _ _ _ _ (wpAny_newFunctionEnv_cells S.kind kinds fun env he s1 x => ?_))
    subst he
    obtain ⟨t, ht, hq⟩ := body A outer s H vs Q E (hr.deeper _) hsp
    have I := inv_start (CX := CX0) (E := E) S hr.room.hd e0 (len _ _ _ _ hsp) rv x
    refine ⟨(e0.mod.nolimit.keeps kp).keeps x.toInCall.keep, codeAny_func (wpAny_mono (ht.nox.run [] s1 (start N vs) H _ I hq) (fun fl s2 done => ?_) fun _ _ out => out)⟩
    match fl, done with
    | .ret u, ⟨v, _, H2, J, rv2, q⟩ => exact ⟨v, H2, J.os, J.bare, J.base, J.hok, rv2, q⟩
    | .next, ⟨_, H2, J, q⟩ => exact ⟨V.non, H2, J.os, J.bare, J.base, J.hok, rfl, q⟩
    | .brk, ⟨_, _, _, z⟩ => exact z.elim
    | .cont, ⟨_, _, _, z⟩ => exact z.elim
  exact key
theorem DfT.ok {x : Str} {st : Stmt} {N ps : List Str} {k : Nat} {sp : Sp} {c : Addr} (D : DfT K mg x st ps c) (S : FnScope N ps (defScope st)) (len : ∀ vs H Q E, sp vs H Q E → vs.length = ps.length)
    (body : ∀ (f : Addr) (A : Around) (outer : List Env) (s : Shared) (H : Hp) (vs : List V) (Q : VK) (E : XK), RoomG k (A.deeper (envOfC x (defScope st) s.heap.objs.size f (.ref c))) → sp vs H Q E →
      ∃ t, PSs (cxOf CX0 P w K mg base N x (defScope st) f (.ref c) A outer s H E).nox (defBody st) t ∧ t { nx := fun _ H' => Q .non H', rt := Q } (start N vs) H) : Cl P w K mg base (k + 1) x ps sp := by
  obtain ⟨f, fd, F, m, b, hc⟩ := D.ex
  exact ⟨f, fd, Fun.okT F hc S len (body f), m, F.kp, b⟩
end
theorem dft_mk {K : PySem.W.Frag} {h : Heap} {mg : Str → Option Value} {x : Str} {st : Stmt} {ps : List Str} {c : Addr} (X : K.In h) (G : h.Ns PySem.mainGlobals mg) {f : Addr} {oc : Value} {od an : Option Addr} {osl : Array (Option Value)} {kV doc pm ct : Value}
    (a : PySem.W.nsIn K PySem.mainGlobals x = some (some (.ref f))) (l : K.lookup f = some ⟨oc, od, .func (PySem.W.fnOf x x (defArgs st) (defBody st) (defScope st) .none kV doc pm an (.ref c) ct), osl⟩) (cd : PySem.W.codeIn K (.ref c) x = true) (kp : PySem.W.keepIn K (.ref f) = true)
    (b : ∀ (kV doc pm : Value) (an : Option Addr) (cdv ct : Value) (us : List Value), us.length = ps.length → bindArgs (PySem.W.fnOf x x (defArgs st) (defBody st) (defScope st) .none kV doc pm an cdv ct) ⟨us, []⟩ = pure (ps.zip us)) : DfT K mg x st ps c := by
  have F := fun_mk (st := st) l cd kp
  exact ⟨f, _, F, PySem.W.mg_of X G a, F.binds b, rfl⟩
theorem d_tupGx {tg : TGen} {σ : L2.St} {H : Hp} {Q : VK} (q : tg σ H fun out H2 => ∀ q, H2 q = none → Q (.ref q) (upd H2 q (.tup out))) : tTupGx tg σ H Q := q
theorem d_gx {P : Addr} {js : List Nat} {wi : TI} {te : TE} {σ : L2.St} {H : Hp} {cont : List V → Hp → Prop} (q : wi σ H fun J H1 => GxR.TabG H1 P ∧ ∀ H2, GxR.Tabbed P H1 H2 → GxB J te (js.map (NdefX.slotAt σ)) H2 cont) : tGx P js wi te σ H cont := q
theorem kp_tabbed {P : Addr} {H H' : Hp} (t : GxR.Tabbed P H H') : Kp [P] H H' := fun b o nb e => (t.2 b fun z => nb (by rw [z]; simp)).trans e
end Lw
theorem GxR.TabG.keep0 {P : PySem.Addr} {H H' : L2.Hp} (t : GxR.TabG H P) (k : Lw.Kp [] H H') : GxR.TabG H' P := by
  obtain ⟨ps, e, h⟩ := t
  exact ⟨ps, k _ _ (by simp) e, h⟩

set_option maxRecDepth 100000
set_option maxHeartbeats 4000000
/-! tuple(list) told with its object; dict(such a tuple of pairs) -/
namespace Lw
open PySem PySem.Spec
open PyProof.Rows L2
def plainTup (o : Obj) : Prop := o.cls = .type "tuple" ∧ o.dict = none
def rTupF (K : PySem.W.Frag) : List V → Hp → VK → Prop := fun xs H Q => ∃ p ys, xs = [.ref p] ∧ SqL K H p ys ∧ ∀ l o, H l = none → plainTup o → Q (.ref l) (upd H l (.frz o (.tup ys)))
/-- a tuple of pairs, its object known -/
def PairsAt (K : PySem.W.Frag) (H : Hp) (a : Addr) (kvs : List (Key × V)) : Prop := ∃ (o : Obj) (ps : List Addr), H a = some (.frz o (.tup (ps.map V.ref))) ∧ plainTup o ∧ Paired (fun p kv => SqT K H p [kV kv.1, kv.2]) ps kvs
def rDictT (K : PySem.W.Frag) : List V → Hp → VK → Prop := fun xs H Q => ∃ a kvs, xs = [.ref a] ∧ PairsAt K H a kvs ∧ ∀ d, H d = none → Q (.ref d) (upd H d (.dK (mergeK [] kvs)))
theorem pv_of {h : Heap} : ∀ {ps : List Addr} {prs : List (Key × Value)}, prs.length = ps.length → (∀ (j : Nat) (q : Key × Value), prs[j]? = some q → ∃ (b : Addr) (u : Value), ps[j]? = some b ∧ IsTup h b #[u, q.2] ∧ keyIs q.1 u = true) →
    ∃ pv : List (Value × Value), pv.length = ps.length ∧ ∀ (j : Nat) (k v : Value), pv[j]? = some (k, v) → ∃ (b : Addr) (key : Key), ps[j]? = some b ∧ IsTup h b #[k, v] ∧ prs[j]? = some (key, v) ∧ keyIs key k = true
  | [], [], _, _ => ⟨[], rfl, fun j k v e => by cases e⟩
  | [], _ :: _, e, _ => by cases e
  | _ :: _, [], e, _ => by cases e
  | p :: ps, q :: prs, e, hp => by
    obtain ⟨pv, l, h1⟩ := pv_of (ps := ps) (prs := prs) (by simpa using e) fun j q' e' => by simpa using hp (j + 1) q' (by simpa using e')
    obtain ⟨b, u, e1, e2, e3⟩ := hp 0 q rfl
    refine ⟨(u, q.2) :: pv, by simp [l], fun j k v e' => ?_⟩
    cases j with
    | zero => cases e'; exact ⟨b, q.1, e1, e2, rfl, e3⟩
    | succ j =>
      obtain ⟨b', key, f1, f2, f3, f4⟩ := h1 j k v (by simpa using e')
      exact ⟨b', key, by simpa using f1, f2, by simpa using f3, f4⟩
section
variable {X : Cx}
theorem c_tupF : CallR X (.type "tuple") (rTupF X.K) := by
  rintro pins s σ H _ us Q I r ⟨p, ys, rfl, hq, q⟩
  obtain ⟨_, rfl, rfl⟩ := vals1 r
  obtain ⟨its, rv, pl, hz⟩ := I.list hq
  refine call_tuple_list pl.isList (fun h' kp => ?_) (by rw [List.size_toArray, ← rv.length]; exact hz)
  have I1 : Inv X pins σ H { s with heap := h' } := I.kept (t' := s.toks) kp
  have g := Heap.get?_push_size (o := { cls := .type "tuple", data := .seq its.toArray }) h' rfl
  exact ⟨.ref h'.objs.size, _, I1.laid (t' := s.toks) (fun b o e => Heap.get?_push_of_some _ e) (Nat.le_refl _) (show ObjOk X.prog X.w _ _ _ (.frz _ (.tup ys)) from ⟨g, hz, its, rv, IsTup.new _ _⟩), rfl, q _ _ (I1.hok.fresh (Nat.le_refl _)) ⟨rfl, rfl⟩⟩
theorem c_dictT (hc : X.calm = true) : CallR X (.type "dict") (rDictT X.K) := by
  rintro pins s σ H _ us Q I r ⟨a, kvs, rfl, ⟨o, ps, ha, ⟨oc, od⟩, hp⟩, q⟩
  obtain ⟨_, rfl, rfl⟩ := vals1 r
  obtain ⟨ho, hz, its, rv, ht⟩ := (show ObjOk X.prog X.w H s.heap a (.frz o (.tup (ps.map V.ref))) from I.hok a _ ha)
  obtain ⟨o2, ho2, _, n, hd⟩ := ht
  rw [ho] at ho2
  cases ho2
  have ei := refs_at rv
  subst ei
  rw [List.length_map] at hz
  obtain ⟨prs, rel, hl, hpr⟩ := pairs_of I hp
  obtain ⟨pv, lv, hv⟩ := pv_of hl hpr
  have items : PySem.PairItems s.heap (ps.map Value.ref).toArray (fun j => ps.getD j 0) pv := ⟨by simp [lv], fun j k v e => by
    obtain ⟨b, key, f1, f2, _⟩ := hv j k v e
    have g : ps.getD j 0 = b := by rw [List.getD_eq_getElem?_getD, f1]; rfl
    exact ⟨by simp [f1], .inl (by show s.heap.IsTuple (ps.getD j 0) _; rw [g]; exact f2)⟩⟩
  refine PySem.call_dict_pairs (knd := mixKind X.prog X.w) (kvs := prs) (PySem.PairArg.tuple a (ps.map Value.ref).toArray (fun j => ps.getD j 0) pv) (I.ok.hd hc) ⟨⟨o, n, ho, oc, od, hd⟩, items⟩ ⟨hl.trans lv.symm, fun i key v e => ?_⟩ (by rw [lv]; exact hz) fun h' tk hd' k => ?_
  · obtain ⟨_, ky, _, _, f3, f4⟩ := hv i key v e
    exact ⟨ky, f3, f4⟩
  · have low : (s.heap.objs.size == sysModules) = false := beq_eq_false_iff_ne.mpr (Nat.ne_of_gt I.big)
    have short : (mergeK [] kvs).length ≤ sizeLine := Nat.le_trans (length_mergeK kvs []) (by rw [List.length_nil, Nat.zero_add, rel.length, hl]; exact hz)
    exact ⟨.ref s.heap.objs.size, _, I.laid (t' := tk) (fun b o e => k b o (List.not_mem_nil) e) (Nat.le_refl _) (show ObjOk X.prog X.w _ _ _ (.dK (mergeK [] kvs)) from ⟨short, low, merged [] prs, KV.merge rel .nil, hd'⟩), rfl, q _ (I.hok.fresh (Nat.le_refl _))⟩
end
theorem d_tupF {K : PySem.W.Frag} {H : Hp} {Q : VK} {p : Addr} {ys : List V} (h : H p = some (.lst ys)) (q : ∀ l o, H l = none → plainTup o → Q (.ref l) (upd H l (.frz o (.tup ys)))) : rTupF K [.ref p] H Q := ⟨p, ys, rfl, sqL h, q⟩
theorem d_dictT {K : PySem.W.Frag} {H : Hp} {Q : VK} {a : Addr} {kvs : List (Key × V)} (h : PairsAt K H a kvs) (q : ∀ d, H d = none → Q (.ref d) (upd H d (.dK (mergeK [] kvs)))) : rDictT K [.ref a] H Q := ⟨a, kvs, rfl, h, q⟩
/-! ### replacements as lists -/
def thOf (l : List (Int × Tm)) : Int → Option Tm := l.foldl (fun θ p j => if j = p.1 then some p.2 else θ j) fun _ => none
/-- the pairs of ints and terms that kvs stands for -/
def PairTm (H : Hp) (kvs : List (Key × V)) (l : List (Int × Tm)) : Prop := kvs.length = l.length ∧ ∀ (j : Nat) kv p, kvs[j]? = some kv → l[j]? = some p → kv.1 = Sum.inl p.1 ∧ At H kv.2 p.2
theorem tbl_fold {H : Hp} : ∀ {kvs : List (Key × V)} {l : List (Int × Tm)} {acc : List (Key × V)} {θ : Int → Option Tm}, PairTm H kvs l → TblAt H acc θ → TblAt H (mergeK acc kvs) (l.foldl (fun θ p j => if j = p.1 then some p.2 else θ j) θ)
  | [], [], _, _, _, h => h
  | [], _ :: _, _, _, ⟨e, _⟩, _ => by cases e
  | _ :: _, [], _, _, ⟨e, _⟩, _ => by cases e
  | kv :: kvs, p :: l, acc, θ, ⟨e, hp⟩, h => by
    obtain ⟨h1, h2⟩ := hp 0 kv p rfl rfl
    have step := h.put (i := p.1) h2
    rw [← h1] at step
    exact tbl_fold (kvs := kvs) (l := l) ⟨by simpa using e, fun j a b e1 e2 => hp (j + 1) a b (by simpa using e1) (by simpa using e2)⟩ step
theorem tbl_of {H : Hp} {kvs : List (Key × V)} {l : List (Int × Tm)} (h : PairTm H kvs l) : TblAt H (mergeK [] kvs) (thOf l) := tbl_fold h .nil
/-- pairs of ints and terms, as substitute takes them -/
def spSubst (P : Addr) (K : PySem.W.Frag) (d : Nat) : Sp := fun vs H Q _ => ∃ (v : V) (a : Addr) (tm : Tm) (kvs : List (Key × V)) (l : List (Int × Tm)), vs = [v, .ref a] ∧ At H v tm ∧ tm.depth ≤ d ∧ tm.size ≤ 100000 ∧ PairsAt K H a kvs ∧ PairTm H kvs l ∧ GxR.TabG H P ∧
  ∀ H' v', Kp [P] H H' → GxR.TabG H' P → At H' v' (tm.sub (thOf l)) → Q v' H'
theorem PairTm.keep {H H' : Hp} {kvs : List (Key × V)} {l : List (Int × Tm)} (h : PairTm H kvs l) (k : KeepT H H') : PairTm H' kvs l := ⟨h.1, fun j a b e1 e2 => ⟨(h.2 j a b e1 e2).1, (h.2 j a b e1 e2).2.keep k⟩⟩
end Lw

set_option maxRecDepth 100000
set_option maxHeartbeats 4000000
/-! lists of pairs; what a replacement rests on -/
namespace Lw
open PySem PySem.Spec
open PyProof.Rows L2
/-! ### replacements -/
theorem thOf_snoc (L : List (Int × Tm)) (p : Int × Tm) (j : Int) : thOf (L ++ [p]) j = if j = p.1 then some p.2 else thOf L j := by
  unfold thOf
  rw [List.foldl_append]
  rfl
theorem snoc_ind {α : Type} {m : List α → Prop} (h0 : m []) (h1 : ∀ L p, m L → m (L ++ [p])) (L : List α) : m L := by
  have key : ∀ R : List α, m R.reverse := fun R => by
    induction R with
    | nil => exact h0
    | cons p R ih => rw [List.reverse_cons]; exact h1 _ _ ih
  rw [← List.reverse_reverse L]
  exact key _
theorem thOf_none {i : Int} (L : List (Int × Tm)) : (∀ p ∈ L, p.1 ≠ i) → thOf L i = none := by
  refine snoc_ind (m := fun L => (∀ p ∈ L, p.1 ≠ i) → thOf L i = none) (fun _ => rfl) (fun L p ih h => ?_) L
  rw [thOf_snoc, if_neg (fun z => h p (by simp) z.symm)]
  exact ih fun q hq => h q (List.mem_append_left _ hq)
theorem thOf_mem {i : Int} {t : Tm} {L : List (Int × Tm)} : (L.map (·.1)).Nodup → (i, t) ∈ L → thOf L i = some t := by
  refine snoc_ind (m := fun L => (L.map (·.1)).Nodup → (i, t) ∈ L → thOf L i = some t) (fun _ h => by cases h) (fun L p ih hn h => ?_) L
  rw [List.map_append, List.nodup_append] at hn
  rw [thOf_snoc]
  rcases List.mem_append.mp h with h | h
  · rw [if_neg fun z => hn.2.2 i (List.mem_map.mpr ⟨_, h, rfl⟩) p.1 (by simp) z]
    exact ih hn.1 h
  · have e : (i, t) = p := by simpa using h
    rw [← e, if_pos rfl]
theorem thOf_in {i : Int} {t : Tm} {L : List (Int × Tm)} : thOf L i = some t → (i, t) ∈ L := by
  refine snoc_ind (m := fun L => thOf L i = some t → (i, t) ∈ L) (fun h => by cases h) (fun L p ih h => ?_) L
  rw [thOf_snoc] at h
  by_cases e : i = p.1
  · rw [if_pos e] at h
    cases h
    rw [e]
    exact List.mem_append_right _ (by simp)
  · rw [if_neg e] at h
    exact List.mem_append_left _ (ih h)
/-- the same pairs, each variable once: the same replacement -/
theorem thOf_eq {L M : List (Int × Tm)} {i : Int} (hL : (L.map (·.1)).Nodup) (hM : (M.map (·.1)).Nodup) (h : ∀ t, (i, t) ∈ L ↔ (i, t) ∈ M) : thOf L i = thOf M i := by
  cases e : thOf L i with
  | some t => rw [thOf_mem hM ((h t).mp (thOf_in e))]
  | none =>
    cases e2 : thOf M i with
    | none => rfl
    | some t => rw [thOf_mem hL ((h t).mpr (thOf_in e2))] at e; cases e
mutual
theorem Tm.sub_congr {θ θ' : Int → Option Tm} : ∀ t : Tm, (∀ i ∈ t.ints, θ i = θ' i) → t.sub θ = t.sub θ'
  | .var i, h => by rw [Tm.sub_var, Tm.sub_var, h i (by rw [Tm.ints_var]; simp)]
  | .app n ts, h => by
    rw [Tm.ints_app] at h
    rw [Tm.sub_app, Tm.sub_app, Tm.subs_congr ts h]
theorem Tm.subs_congr {θ θ' : Int → Option Tm} : ∀ ts : List Tm, (∀ i ∈ Tm.intss ts, θ i = θ' i) → Tm.subs θ ts = Tm.subs θ' ts
  | [], _ => by rw [Tm.subs, Tm.subs]
  | t :: r, h => by
    rw [Tm.intss_cons] at h
    rw [Tm.subs, Tm.subs, Tm.sub_congr t fun i hi => h i (List.mem_append_left _ hi), Tm.subs_congr r fun i hi => h i (List.mem_append_right _ hi)]
end
/-- a drawn term's variables are those it was drawn from -/
theorem Gen.ints {zs : List (Str × Int)} {vars : List Tm} {S : List Int} (hv : ∀ t ∈ vars, ∀ i ∈ t.ints, i ∈ S) {d : Nat} {t : Tm} (h : Gen zs vars d t) : ∀ i ∈ t.ints, i ∈ S := by
  induction h with
  | var h => exact hv _ h
  | leaf h => intro i hi; rw [Tm.ints_app, Tm.intss_nil] at hi; cases hi
  | @app d z n ts h hl hs ih =>
    intro i hi
    rw [Tm.ints_app] at hi
    obtain ⟨u, hu, e⟩ := List.mem_filterMap.mp hi
    obtain ⟨t, ht, hu⟩ := Tm.mem_occs.mp hu
    exact ih t ht i (List.mem_filterMap.mpr ⟨u, hu, e⟩)
/-! ### lists of pairs -/
def PrR (H : Hp) (x : V) (p : Int × Tm) : Prop := ∃ a v, x = .ref a ∧ H a = some (.tup [.int p.1, v]) ∧ At H v p.2
abbrev PrV (H : Hp) (xs : List V) (L : List (Int × Tm)) : Prop := Paired (PrR H) xs L
theorem PrV.keep {H H' : Hp} (k : KeepT H H') : ∀ {xs : List V} {L : List (Int × Tm)}, PrV H xs L → PrV H' xs L
  | _, _, .nil => .nil
  | _, _, .cons ⟨a, v, e, ea, av⟩ r => .cons ⟨a, v, e, k _ _ ea, av.keep k⟩ (PrV.keep k r)
theorem PrV.app {H : Hp} : ∀ {xs ys : List V} {L M : List (Int × Tm)}, PrV H xs L → PrV H ys M → PrV H (xs ++ ys) (L ++ M)
  | _, _, _, _, .nil, h => h
  | _, _, _, _, .cons a r, h => .cons a (PrV.app r h)
theorem PrV.len {H : Hp} {xs : List V} {L : List (Int × Tm)} (h : PrV H xs L) : xs.length = L.length := Paired.length h
theorem PrV.tk {H : Hp} : ∀ {xs : List V} {L : List (Int × Tm)} (n : Nat), PrV H xs L → PrV H (xs.take n) (L.take n)
  | _, _, 0, _ => by rw [List.take_zero, List.take_zero]; exact .nil
  | _, _, n + 1, .nil => by rw [List.take_nil, List.take_nil]; exact .nil
  | _, _, n + 1, .cons a r => .cons a (PrV.tk n r)
theorem PrV.dp {H : Hp} : ∀ {xs : List V} {L : List (Int × Tm)} (n : Nat), PrV H xs L → PrV H (xs.drop n) (L.drop n)
  | _, _, 0, h => h
  | _, _, n + 1, .nil => by rw [List.drop_nil, List.drop_nil]; exact .nil
  | _, _, n + 1, .cons a r => PrV.dp n r
theorem PrV.pairs {K : PySem.W.Frag} {H : Hp} : ∀ {xs : List V} {L : List (Int × Tm)}, PrV H xs L → ∃ (ps : List Addr) (kvs : List (Key × V)), xs = ps.map V.ref ∧ Paired (fun p kv => SqT K H p [kV kv.1, kv.2]) ps kvs ∧ PairTm H kvs L
  | _, _, .nil => ⟨[], [], rfl, .nil, rfl, fun j a b e => by cases e⟩
  | _, _, .cons (b := p) ⟨a, v, e, ea, av⟩ r => by
    obtain ⟨ps, kvs, e1, e2, e3, e4⟩ := PrV.pairs (K := K) r
    refine ⟨a :: ps, (Sum.inl p.1, v) :: kvs, by rw [e, e1]; rfl, .cons (sqT ea) e2, by simp [e3], fun j b c f1 f2 => ?_⟩
    cases j with
    | zero => cases f1; cases f2; exact ⟨rfl, av⟩
    | succ j => exact e4 j b c (by simpa using f1) (by simpa using f2)
/-- behind tuple(list of pairs) -/
theorem PrV.tup {K : PySem.W.Frag} {H : Hp} {xs : List V} {L : List (Int × Tm)} {l : Addr} {o : Obj} (h : PrV H xs L) (hl : H l = none) (po : plainTup o) :
    ∃ kvs, PairsAt K (upd H l (.frz o (.tup xs))) l kvs ∧ PairTm (upd H l (.frz o (.tup xs))) kvs L := by
  have k : KeepT H (upd H l (.frz o (.tup xs))) := (Kp.new (l := []) hl).keepT (by simp)
  obtain ⟨ps, kvs, e1, e2, e3⟩ := PrV.pairs (K := K) (h.keep k)
  exact ⟨kvs, ⟨o, ps, by rw [upd_same, e1], po, e2⟩, e3⟩
theorem cutV_drop (xs : List V) (n : Int) (h : 0 ≤ n) : cutV xs (some n) none = xs.drop n.toNat := by
  obtain ⟨m, rfl⟩ := Int.eq_ofNat_of_zero_le h
  unfold cutV
  rw [HT.sIx_none, HT.sIx_nat, Int.toNat_natCast]
  by_cases hm : m ≤ xs.length
  · rw [Nat.min_eq_left hm]
    exact List.take_of_length_le (by rw [List.length_drop]; exact Nat.le_refl _)
  · rw [Nat.min_eq_right (by omega), Nat.sub_self, List.take_zero, List.drop_of_length_le (by omega)]
theorem d_cat {H : Hp} {Q : VK} {a b : Addr} {xs ys : List V} (ha : H a = some (.lst xs)) (hb : H b = some (.lst ys)) (hz : xs.length + ys.length ≤ 1000000) (q : ∀ p, H p = none → Q (.ref p) (upd H p (.lst (xs ++ ys)))) : rCat (.ref a) (.ref b) H Q := ⟨a, b, xs, ys, rfl, rfl, ha, hb, smallN hz, q⟩
/-! ### the tape, the symbols, the variables and a def's table -/
structure Dq (H : Hp) (t sc sy va : Addr) (ns : List Int) (zs : List (Str × Int)) (vars : List Tm) (P : Addr) : Prop where
  dw : Dw H t sc sy va ns zs vars
  tg : GxR.TabG H P
section
variable {H H' : Hp} {t sc sy va P : Addr} {ns : List Int} {zs : List (Str × Int)} {vars : List Tm}
theorem Dq.nP (h : Dq H t sc sy va ns zs vars P) : ∀ xs, H P ≠ some (.lst xs) := fun xs e => by
  obtain ⟨ps, e2, _⟩ := h.tg
  rw [e] at e2
  cases e2
theorem Dq.tP (h : Dq H t sc sy va ns zs vars P) : t ≠ P := fun z => by
  obtain ⟨⟨pl, pd, sd, _, e⟩, _, _⟩ := h.dw.tp
  exact h.nP _ (z ▸ e)
theorem Dq.tape (h : Dq H t sc sy va ns zs vars P) (k : Kp [t] H H') (T : TapeAt H' t sc ns) : Dq H' t sc sy va ns zs vars P := by
  obtain ⟨ps, e, h2⟩ := h.tg
  exact ⟨h.dw.tape k T, ps, k.one h.tP.symm e, h2⟩
theorem Dq.nil (h : Dq H t sc sy va ns zs vars P) (k : Kp [] H H') : Dq H' t sc sy va ns zs vars P := ⟨h.dw.nil k, h.tg.keep0 k⟩
/-- one address besides changes, of no part of it -/
theorem Dq.put (h : Dq H t sc sy va ns zs vars P) {a : Addr} (k : Kp [a] H H') (n1 : t ≠ a) (n2 : sc ≠ a) (n3 : sy ≠ a) (n4 : va ≠ a) (n5 : P ≠ a) (nt : ∀ b ∈ [a], ∀ ys, H b ≠ some (.tup ys)) : Dq H' t sc sy va ns zs vars P := by
  obtain ⟨ps, e, h2⟩ := h.tg
  exact ⟨⟨h.dw.tp.keep k (one_not' n1) (one_not' n2), h.dw.sy.keep k (one_not' n3) nt, h.dw.va.keep k (one_not' n4) nt⟩, ps, k.one n5 e, h2⟩
theorem Dq.tab (h : Dq H t sc sy va ns zs vars P) (k : Kp [P] H H') (T : GxR.TabG H' P) : Dq H' t sc sy va ns zs vars P := by
  have nt := no_tupT h.tg
  have sN : sc ≠ P := fun z => h.nP _ (z ▸ h.dw.tp.scr)
  have yN : sy ≠ P := fun z => by obtain ⟨_, e, _⟩ := h.dw.sy.is; exact h.nP _ (z ▸ e)
  have vN : va ≠ P := fun z => by obtain ⟨_, e, _⟩ := h.dw.va.is; exact h.nP _ (z ▸ e)
  exact ⟨⟨h.dw.tp.keep k (one_not' h.tP) (one_not' sN), h.dw.sy.keep k (one_not' yN) nt, h.dw.va.keep k (one_not' vN) nt⟩, T⟩
end
/-- the law's five variables, from a place on -/
def five : List Int := [0, 1, 2, 41, 65535]
def vl (f : Int) (i : Nat) : Int := five.getD ((f + (0 + (i : Int))).fmod 5).toNat 0
theorem mod5 (a : Int) : 0 ≤ a.fmod 5 ∧ a.fmod 5 < 5 := by
  rw [Int.fmod_eq_emod_of_nonneg _ (by decide)]
  exact ⟨Int.emod_nonneg _ (by decide), Int.emod_lt_of_pos _ (by decide)⟩
theorem at5 {m : Int} (h0 : 0 ≤ m) (h1 : m < 5) : atI [V.int 0, V.int 1, V.int 2, V.int 41, V.int 65535] m = some (V.int (five.getD m.toNat 0)) ∧ five.getD m.toNat 0 ∈ [(0 : Int), 1, 2, 41, 65535] := by
  have hm : m = 0 ∨ m = 1 ∨ m = 2 ∨ m = 3 ∨ m = 4 := by omega
  rcases hm with rfl | rfl | rfl | rfl | rfl
  · exact ⟨rfl, by decide⟩
  · exact ⟨rfl, by decide⟩
  · exact ⟨rfl, by decide⟩
  · exact ⟨rfl, by decide⟩
  · exact ⟨rfl, by decide⟩
theorem vl_in (f : Int) (i : Nat) : vl f i ∈ [(0 : Int), 1, 2, 41, 65535] := (at5 (mod5 _).1 (mod5 _).2).2
theorem vl_nodup {f : Int} (h0 : 0 ≤ f) (h1 : f < 5) {n : Nat} (hn : n ≤ 5) : ((List.range n).map (vl f)).Nodup := by
  have key : ((List.range 5).map (vl f)).Nodup := by
    have hm : f = 0 ∨ f = 1 ∨ f = 2 ∨ f = 3 ∨ f = 4 := by omega
    rcases hm with rfl | rfl | rfl | rfl | rfl <;> decide
  have hs : (List.range n).Sublist (List.range 5) := List.range_sublist.mpr hn
  exact key.sublist (hs.map _)
/-- within a comprehension's own context -/
theorem ix_listK {X : Cx} {K : PySem.W.Frag} (h : X.K = K) : IxR X (rIxL K) := h ▸ ix_list
theorem ix_tupK {X : Cx} {K : PySem.W.Frag} (h : X.K = K) : IxR X (rIxT K) := h ▸ ix_tup
end Lw

set_option maxRecDepth 100000
set_option maxHeartbeats 4000000
/-! sorted(d): a dict whose keys are ints -/
namespace Lw
open PySem PySem.Spec
open PyProof.Rows L2
def rSortedDk : List V → Hp → VK → Prop := fun xs H Q => ∃ p kvs ns, xs = [.ref p] ∧ H p = some (.dK kvs) ∧ (kvs.map fun kv => kV kv.1) = ns.map V.int ∧
  ∀ (ns' : List Int) (q : Addr), ns'.Perm ns → ns'.Pairwise (· ≤ ·) → H q = none → Q (.ref q) (upd H q (.lst (ns'.map V.int)))
section
variable {prog : Program} {w : World} {A : Around} {E : Value → Shared → Prop}
variable {s : Shared} {r : Addr}
/-- what a collecting hands over: ints, and good when they lie sorted behind the heap -/
def SrtGood (Q : Value → Shared → Prop) (us : List Value) (s' : Shared) : Prop :=
  us.length ≤ sizeLine ∧ ∃ ns, IntsAre us ns ∧ ∀ (h2 : Heap) (ns' : List Int) (out : Array Value) (c : Nat), IntsAre out.toList ns' → ns'.Perm ns → ns'.Pairwise (· ≤ ·) → (∀ b o, s'.heap.get? b = some o → h2.get? b = some o) →
    h2.get? s'.heap.objs.size = some (seqObj "list" out c) → Q (.ref s'.heap.objs.size) { s' with heap := h2 }
theorem sort_behind {Q : Value → Shared → Prop} {us : List Value} (h : SrtGood Q us s) :
    wpAny (model prog w) A (call (.builtin "list.sort") [.ref s.heap.objs.size]) (fun _ t => Q (.ref s.heap.objs.size) t) E { s with heap := s.heap.push (seqObj "list" us.toArray 0) } := by
  obtain ⟨hz, ns, hi, q⟩ := h
  have at0 : (s.heap.push (seqObj "list" us.toArray 0)).get? s.heap.objs.size = some (seqObj "list" us.toArray 0) := Heap.get?_push_size _ rfl
  refine wpAny_call_entry slot_list_sort ⟨_, at0, rfl⟩ entry_list_sort (SrtO.list_sort_ord SrtO.swo_int (s := { s with heap := s.heap.push (seqObj "list" us.toArray 0) }) at0 hz (fun two => SrtO.ints_sortable hi two) fun out o1 o2 => ⟨_, rfl, ?_⟩) (args_list_sort _)
  obtain ⟨k1, k2, k3⟩ := SrtO.ints_out hi o1 o2
  obtain ⟨c, e⟩ := sortedHeap_at (vs := us) (out := out.toArray) at0
  exact q _ _ _ c k1 k2 k3 (fun b o g => (sortedHeap_old (Nat.ne_of_lt (Heap.lt_size g)) (Heap.lt_size (Heap.get?_push_of_some _ g))).trans (Heap.get?_push_of_some _ g)) e
theorem sorted_by {Q : Value → Shared → Prop} (hc : ∀ E', wpAny (model prog w) A.in1 (collect (.ref r)) (SrtGood Q) E' s) : wpAny (model prog w) A (call (.builtin "sorted") [.ref r]) Q E s :=
  Calls.call_function_entry kind_sorted plain_sorted entry_sorted (args_sorted1 _) (show wpAny _ _ (Builtin.«sorted» _) _ _ _ by
    unfold Builtin.«sorted»
    exact wpAny_bind (m := checkCount "sorted" 1 1 _) (wpAny_pure (wpAny_bind (wpAny_mono (hc _) (fun us t g => wpAny_bind (wpAny_newList (wpAny_bind (wpAny_holding (wpAny_mono (sort_behind g) (fun _ t' e => wpAny_pure ⟨_, rfl, e⟩) fun _ _ e => e))) g.1)) fun _ _ e => e))))
end
section
variable {X : Cx}
theorem c_sortedDk (hc : X.calm = true) : CallR X (.builtin "sorted") rSortedDk := by
  rintro pins s σ H _ us Q I r ⟨p, kvs, ns, rfl, hk, en, q⟩
  obtain ⟨_, rfl, rfl⟩ := vals1 r
  obtain ⟨hz, low, vs, kv, dof⟩ := dk_of I.hok hk
  obtain ⟨ep, dat⟩ := dof.dictAt
  have n : (kvs.map fun kv => kV kv.1).length = vs.length := by rw [List.length_map]; exact Paired.length kv
  have n2 := Nat.le_trans (Nat.le_of_eq n) (by rw [← n, List.length_map]; exact hz)
  refine sorted_by fun E' => PySem.W.kdu_collect (PySem.W.kdl_dict (knd := mixKind X.prog X.w) (kvs := vs) (ep := ep) low) (I.ok.hd hc) dat (n ▸ n2) fun h' tk acc kp hi => ?_
  have rv : Vals (kvs.map fun kv => kV kv.1) acc.toList := vals_items (n.symm ▸ hi) fun j x u e ⟨k, y, hky, hu⟩ => by
    obtain ⟨v, e1, _⟩ := L2.KV.at' kv hky
    rw [List.getElem?_map, e1] at e
    cases e
    exact keyIs_rel hu
  have len : acc.toList.length ≤ sizeLine := by rw [← rv.length]; exact n2
  rw [en] at rv
  refine ⟨len, ns, rv.ints, fun h2 ns' out c k1 k2 k3 old e => ?_⟩
  have hlen : (ns'.map V.int).length ≤ sizeLine := by rw [List.length_map, k2.length_eq, ← List.length_map (f := V.int), rv.length]; exact len
  exact ⟨.ref _, _, (I.kept (t' := tk) kp).laid (t' := tk) old (Nat.le_refl _) (show ObjOk X.prog X.w _ _ _ (.lst (ns'.map V.int)) from ⟨hlen, out.toList, c, vals_of_ints k1, e⟩), rfl, q _ _ k2 k3 ((I.kept (t' := tk) kp).hok.fresh (Nat.le_refl _))⟩
end
end Lw

set_option maxRecDepth 100000
set_option maxHeartbeats 4000000
/-! for i, x in enumerate(t), t a tuple -/
namespace Lw
open PySem PySem.Spec
open PyProof.Rows L2
/-! ### the iterator made -/
theorem enum_new1 {v : Value} {o : Obj} {G : Heap → Prop} (B : Begins v o G) :
    Meets (Builtin.«enumerate.__new__» ⟨[.type "enumerate", v], []⟩) (fun _ R s => G s.heap ∧
      R (.ok (.ret (.ref (s.heap.push o).objs.size))) { s with heap := (s.heap.push o).push { cls := .type "enumerate", data := .fields #[.none, .bool false, .ref s.heap.objs.size, rawInt 0, .none, .none] } }) := by
  refine .of_wp fun prog w A R s hyp => ?_
  obtain ⟨hp, gens, drw, tk, os⟩ := s
  obtain ⟨g1, done⟩ := hyp
  have sub0 := sub_enumerate
  have itr : ∀ {A' : Around} {E' Q' : Value → Shared → Prop}, Q' (.ref hp.objs.size) ⟨hp.push o, gens, drw, tk, os⟩ → wpAny (model prog w) A' (pyIter v) Q' E' ⟨hp, gens, drw, tk, os⟩ := fun q => B.iter prog w _ _ _ _ g1 q
  wp_walk
  refine wpAny_stack_any fun frames => wpAny_pure ?_
  split
  · rename_i who _ _ _ _ _
    cases (who == Value.type "enumerate") <;> (wp_walk using itr; exact ⟨_, rfl, done⟩)
  · wp_walk using itr
    exact ⟨_, rfl, done⟩
theorem enum_made {prog : Program} {w : World} {A : Around} {E : Value → Shared → Prop} {s : Shared} {v : Value} {o : Obj} {G : Heap → Prop} {Q : Value → Shared → Prop} (B : Begins v o G) (g1 : G s.heap)
    (q : ∀ h', IsEnum h' (s.heap.objs.size + 1) s.heap.objs.size 0 .none → h'.get? s.heap.objs.size = some o → (∀ b x, s.heap.get? b = some x → h'.get? b = some x) → Q (.ref (s.heap.objs.size + 1)) { s with heap := h' }) :
    wpAny (model prog w) A (call (.type "enumerate") [v]) Q E s := by
  refine callType_new F.called_enumerate (by decide) (F.typeCall_enumerate_1 _) (F.newCall_enumerate_1 _) (fun ob => F.args_object_init_2 ob _) F.entry_enumerate_new (enum_new1 B) ⟨g1, ?_⟩
  have sz : (s.heap.push o).objs.size = s.heap.objs.size + 1 := Heap.size_push ..
  have e0 : IsEnum ((s.heap.push o).push { cls := .type "enumerate", data := .fields #[.none, .bool false, .ref s.heap.objs.size, rawInt 0, .none, .none] }) (s.heap.push o).objs.size s.heap.objs.size 0 .none := Heap.get?_push_size (s.heap.push o) rfl
  show _ ∧ _
  rw [sz] at e0 ⊢
  exact ⟨⟨_, e0, rfl⟩, q _ e0 (Heap.get?_push_of_some _ (Heap.get?_push_size _ B.free)) fun b x ex => Heap.get?_push_of_some _ (Heap.get?_push_of_some _ ex)⟩
/-! ### its turns -/
/-- the tuple at a, each item in a new pair with its place -/
def Iet (K : PySem.W.Frag) (a : Addr) : It :=
  ⟨fun i H => ∃ (xs : List V) (x : V), SqT K H a xs ∧ xs[i]? = some x, fun i H v H' => ∃ p x, v = .ref p ∧ H p = none ∧ H' = upd H p (.tup [.int (i : Nat), x]) ∧ ∀ xs, SqT K H a xs → xs[i]? = some x, fun i H => ∃ xs : List V, SqT K H a xs ∧ xs.length = i⟩
theorem cls_ne {h : Heap} {a b : Addr} {oa ob : Obj} (ha : h.get? a = some oa) (hb : h.get? b = some ob) (hc : oa.cls ≠ ob.cls) : a ≠ b := fun z => by
  rw [z, hb] at ha
  cases ha
  exact hc rfl
def EtSt (a e it : Addr) (i : Nat) (h : Heap) : Prop := (∃ old, IsEnum h e it ((i : Nat) : Int) old) ∧ h.IsTupleIter it a i
theorem EtSt.ne {a e it : Addr} {i : Nat} {h : Heap} {items : Array Value} (st : EtSt a e it i h) (ha : h.IsTuple a items) : e ≠ it ∧ e ≠ a ∧ a ≠ it := by
  obtain ⟨⟨old, he⟩, oi, ei, ci, _⟩ := st
  obtain ⟨oa, ea, ca, _⟩ := ha
  exact ⟨cls_ne he ei (by rw [ci]; show Value.type "enumerate" ≠ Value.type "tuple_iterator"; decide), cls_ne he ea (by rw [ca]; show Value.type "enumerate" ≠ Value.type "tuple"; decide), cls_ne ea ei (by rw [ca, ci]; decide)⟩
theorem turn_enumT {P : Program} {w : World} {K : PySem.W.Frag} {elts : List Expr} {kk : Nat} {tpos : Pos} (a e it : Addr) : Turn P w K (.Tuple elts kk tpos) (Iet K a) [e, it] e (EtSt a e it) where
  mem := by simp
  obj := fun i h st b hb => by
    obtain ⟨⟨old, he⟩, o, ho, _, hd⟩ := st
    rcases List.mem_cons.mp hb with z | z
    · rw [z]; exact ⟨_, he, fun v q => nomatch q⟩
    · rw [List.mem_singleton.mp z]; exact ⟨o, ho, fun v q => by rw [hd] at q; cases q⟩
  keep := fun i h h' st k => ⟨st.1.imp fun _ he => k e (by simp) _ he, st.2.at fun o q => k it (by simp) o q⟩
  item := by
    intro X hP hw hK hc i pins s σ H E I hf st hg
    subst hP hw hK
    obtain ⟨xs, x, hq, hx⟩ := hg
    obtain ⟨its, rv, p, hz⟩ := I.tuple hq
    obtain ⟨u, hu, ru⟩ := rv.get hx
    have pT : s.heap.IsTuple a its.toArray := p
    obtain ⟨n1, n2, n3⟩ := st.ne pT
    obtain ⟨⟨old, he⟩, hit⟩ := st
    have eL : e < s.heap.objs.size := Heap.lt_size he
    have iL : it < s.heap.objs.size := by obtain ⟨_, q, _⟩ := hit; exact Heap.lt_size q
    have hi : i < its.toArray.size := by rw [List.size_toArray]; exact (List.getElem?_eq_some_iff.mp hu).1
    have D0 := Draws.tuple (prog := X.prog) (w := X.w) (A := X.A.in1) (I.ok.hd hc) it a n3 its.toArray
    refine wpAny_pyNext_enum_itemD D0 he ⟨hit, pT⟩ hi n1 (by simp [n1, n2]) fun y h' tk hy ho st2 hT hsz hk => ?_
    have ey : y = u := by
      rw [show its.toArray[i]? = its[i]? by simp, hu] at hy
      exact (Option.some.inj hy).symm
    subst ey
    refine ⟨_, rfl, wpAny_letOwnedTupleGo_enum (s := { s with heap := h', toks := tk + 1 }) ho fun h2 he2 sb => ?_⟩
    have hT2 : h2.get? s.heap.objs.size = some { cls := .type "tuple", data := .seq #[.int i tk, y] } := (sb.2 _ (Nat.ne_of_gt eL)).trans hT
    have new : ObjOk X.prog X.w (upd H s.heap.objs.size (.tup [.int (i : Nat), x])) h2 s.heap.objs.size (.tup [.int (i : Nat), x]) := ⟨by show 2 ≤ sizeLine; decide, [.int i tk, y], .cons ⟨_, rfl⟩ (.cons ru .nil), _, hT2, rfl, _, rfl⟩
    have I2 : Inv X pins σ (upd H s.heap.objs.size (.tup [.int (i : Nat), x])) { s with heap := h2, toks := tk + 1 } := I.turnedNew (ch := [e, it]) (fun b o hb q => by
      have b1 : b ≠ e := fun z => hb (by simp [z])
      have b2 : b ≠ it := fun z => hb (by simp [z])
      exact (sb.2 b b1).trans (hk b o b1 b2 q)) hf (Nat.le_refl _) new
    refine ⟨.ref s.heap.objs.size, _, I2, rfl, ⟨_, x, rfl, I.hok.fresh (Nat.le_refl _), rfl, fun ys hy => by rw [I.tuple_inj hy hq]; exact hx⟩, ⟨⟨y, ?_⟩, st2.1.at fun o q => (sb.2 it (Ne.symm n1)).trans q⟩, fun b hb => ?_⟩
    · rw [show ((i + 1 : Nat) : Int) = (i : Int) + 1 by omega]
      exact he2
    · have bl : b ≠ s.heap.objs.size := by
        rcases List.mem_cons.mp hb with z | z
        · rw [z]; exact Nat.ne_of_lt eL
        · rw [List.mem_singleton.mp z]; exact Nat.ne_of_lt iL
      rw [upd_ne bl]
      exact (hf b hb).1
  done := by
    intro X hP hw hK hc i pins s σ H E I hf st hg
    subst hP hw hK
    obtain ⟨xs, hq, hx⟩ := hg
    obtain ⟨its, rv, p, hz⟩ := I.tuple hq
    have pT : s.heap.IsTuple a its.toArray := p
    obtain ⟨n1, n2, n3⟩ := st.ne pT
    obtain ⟨⟨old, he⟩, hit⟩ := st
    obtain ⟨f0, f1, f2, f3, f4, f5⟩ := hf it (by simp)
    have D0 := Draws.tuple (prog := X.prog) (w := X.w) (A := X.A.in1) (I.ok.hd hc) it a n3 its.toArray
    have l1 := rv.length
    have l2 : i = its.toArray.size := by rw [List.size_toArray]; omega
    subst l2
    exact wpAny_pyNext_enum_endD D0 he ⟨hit, pT⟩ fun h' eb => ⟨rfl, I.turned (t' := s.toks) (fun b o hb q => eb b o hb q) f0 f1 f3 f4 f5⟩
  self := fun A i s Q E st h => wpAny_pyIter_enum st.1.choose_spec h
def iEnumT (K : PySem.W.Frag) (ta : TA) : TI := fun σ H R => ta σ H fun vs H1 => ∃ a xs, vs = [.ref a] ∧ SqT K H1 a xs ∧ R (Iet K a) H1
theorem pi_enumT {X : Cx} {x : Expr} {ta : TA} {p pos tpos : Pos} {elts : List Expr} {kk : Nat} (hg : Gl X "enumerate") (hm : X.mg "enumerate" = none) (ha : PA X [x] ta) (hs : starEach [x] X.env = [(false, eval x X.env)] := by rfl) :
    PI X (.Tuple elts kk tpos) (.Call (.Name "enumerate" p) [x] [] pos) (iEnumT X.K ta) := by
  constructor
  intro pins s σ H R I h
  refine Call_ (ld_blt I hg hm boot_enumerate (PyProof.Rows.callWith_type1 (thn (ha.run pos pins s σ H _ I h) fun us s1 hyp => ?_) hs rfl))
  obtain ⟨vs, H1, I1, r1, a, xs, rfl, hq, q⟩ := hyp
  obtain ⟨_, rfl, rfl⟩ := vals1 r1
  obtain ⟨its, rv, pp, hz⟩ := I1.tuple hq
  have pT : s1.heap.IsTuple a its.toArray := pp
  refine enum_made (begins_tuple a its.toArray) pT fun h' he hi hk => wpAny_pyIter_enum he ?_
  refine ⟨s1.heap.objs.size + 1, [s1.heap.objs.size + 1, s1.heap.objs.size], _, _, H1, rfl, I1.kept (t' := s1.toks) hk, turn_enumT a (s1.heap.objs.size + 1) s1.heap.objs.size, ⟨⟨.none, he⟩, _, hi, rfl, rfl⟩, fun b hb => ?_, q⟩
  have hle : s1.heap.objs.size ≤ b := by
    rcases List.mem_cons.mp hb with z | z
    · rw [z]; exact Nat.le_add_right _ _
    · rw [List.mem_singleton.mp z]; exact Nat.le_refl _
  exact I1.fpOk hle (I1.hok.fresh hle)
theorem walk_enumT {K : PySem.W.Frag} {a : Addr} {xs : List V} : Walk (Iet K a) xs.length (fun H => SqT K H a xs) (YPair (fun i => some (.int (i : Nat))) (fun i => xs[i]?)) := by
  refine ⟨fun i _ hi q => ⟨xs, xs[i], q, List.getElem?_eq_getElem hi⟩, fun _ q => ⟨xs, q, rfl⟩, fun i H v H' _ q y => ?_⟩
  obtain ⟨p, x, e1, e2, e3, e4⟩ := y
  exact ⟨p, .int (i : Nat), x, e1, e2, e3, rfl, e4 xs q⟩
/-- for i, x in enumerate(t): each turn in a heap with one tuple more -/
theorem fr_enumT {K : PySem.W.Frag} {a : Addr} {xs : List V} {g : TG} {tb : TS} {D : Ends} {σ : L2.St} {H : Hp} (Pv : Nat → L2.St → Hp → Prop) (h0 : Pv 0 σ H) (hl : ∀ i σ H, i ≤ xs.length → Pv i σ H → SqT K H a xs)
    (hs : ∀ i x σ H p, xs[i]? = some x → Pv i σ H → H p = none → g (.ref p) σ (upd H p (.tup [.int (i : Nat), x])) fun σ2 H2 => tb { D with nx := Pv (i + 1), ct := Pv (i + 1), bk := D.nx } σ2 H2) (hd : ∀ σ H, Pv xs.length σ H → D.nx σ H) : FrB (Iet K a) g tb D σ H :=
  for_it walk_enumT Pv h0 hl (fun i v σ H H' hi pv y => by
    obtain ⟨p, x, y2, rfl, e2, rfl, e4, e5⟩ := y
    cases e4
    exact hs i y2 σ H p e5 pv e2) hd
end Lw

set_option maxRecDepth 100000
set_option maxHeartbeats 4000000
/-! t >= u for tuples of ints; rows of ints; bounds -/
namespace Lw
open PySem PySem.Spec
open PyProof.Rows L2
/-- t >= u -/
def lexGe : List Int → List Int → Bool
  | _, [] => true
  | [], _ :: _ => false
  | x :: xs, y :: ys => if x = y then lexGe xs ys else decide (y ≤ x)
theorem lexGe_nil (xs : List Int) : lexGe xs [] = true := by cases xs <;> rfl
theorem lexGe_none (y : Int) (ys : List Int) : lexGe [] (y :: ys) = false := rfl
theorem lexGe_cons (x y : Int) (xs ys : List Int) : lexGe (x :: xs) (y :: ys) = if x = y then lexGe xs ys else decide (y ≤ x) := rfl
theorem firstGe (ns ms : List Int) : ∀ (k i : Nat), i + k = min ns.length ms.length →
    SeqAt.firstLt (fun j => ns.getD j 0 == ms.getD j 0) (fun j => decide (ms.getD j 0 ≤ ns.getD j 0)) (decide (ns.length ≥ ms.length)) (List.range' i k) = lexGe (ns.drop i) (ms.drop i)
  | 0, i, h => by
    show decide (ns.length ≥ ms.length) = _
    by_cases c : ms.length ≤ ns.length
    · rw [List.drop_of_length_le (show ms.length ≤ i by omega), lexGe_nil]
      exact decide_eq_true c
    · rw [List.drop_of_length_le (show ns.length ≤ i by omega), List.drop_eq_getElem_cons (show i < ms.length by omega), lexGe_none]
      exact decide_eq_false c
  | k + 1, i, h => by
    have h1 : i < ns.length := by omega
    have h2 : i < ms.length := by omega
    have g1 : ns.getD i 0 = ns[i] := by rw [List.getD_eq_getElem?_getD, List.getElem?_eq_getElem h1]; rfl
    have g2 : ms.getD i 0 = ms[i] := by rw [List.getD_eq_getElem?_getD, List.getElem?_eq_getElem h2]; rfl
    rw [List.drop_eq_getElem_cons h1, List.drop_eq_getElem_cons h2, lexGe_cons, ← firstGe ns ms k (i + 1) (by omega), List.range'_succ]
    by_cases c : ns[i] = ms[i]
    · rw [if_pos c, SeqAt.firstLt_yes (by rw [g1, g2, c]; exact beq_self_eq_true _)]
    · rw [if_neg c, SeqAt.firstLt_no (by rw [g1, g2]; exact beq_false_of_ne c), g1, g2]
theorem ints_get {us : List Value} {ns : List Int} (h : IntsAre us ns) : ∀ (j : Nat) (hj : j < us.length), ∃ t, us[j] = .int (ns.getD j 0) t := by
  induction h with
  | nil => intro j hj; exact absurd hj (Nat.not_lt_zero _)
  | cons a t _ ih =>
    intro j hj
    cases j with
    | zero => exact ⟨t, rfl⟩
    | succ j => exact ih j (Nat.lt_of_succ_lt_succ hj)
def rGeT (K : PySem.W.Frag) : R2 := fun x y H Q => ∃ a b ns ms, x = .ref a ∧ y = .ref b ∧ SqT K H a (ns.map V.int) ∧ SqT K H b (ms.map V.int) ∧ Q (.bl (lexGe ns ms)) H
theorem op_geT {X : Cx} (hu : X.A.units < cLine) : OpR X (compareOp .GtE) (rGeT X.K) := by
  rintro pins s σ H x y v u Q I rx ry ⟨a, b, ns, ms, rfl, rfl, ha, hb, q⟩
  cases rx
  cases ry
  obtain ⟨its, r1, p1, _⟩ := I.tuple ha
  obtain ⟨its2, r2, p2, _⟩ := I.tuple hb
  have i1 : IntsAre its ns := by have := intsAre_of r1; simpa using this
  have i2 : IntsAre its2 ms := by have := intsAre_of r2; simpa using this
  have l1 : its.length = ns.length := i1.length
  have l2 : its2.length = ms.length := i2.length
  have go := SeqAt.RcOp.tuples_ge (A := X.A) (e := fun j => ns.getD j 0 == ms.getD j 0) (r := fun j => decide (ms.getD j 0 ≤ ns.getD j 0)) (show s.heap.IsTuple a its.toArray from p1) (show s.heap.IsTuple b its2.toArray from p2) hu
    (fun j h1 h2 => by
      obtain ⟨t1, e1⟩ := ints_get i1 j (by simpa using h1)
      obtain ⟨t2, e2⟩ := ints_get i2 j (by simpa using h2)
      rw [List.getElem_toArray, List.getElem_toArray, e1, e2]
      exact SeqAt.EqAt.int_int _ _ _ _)
    (fun j h1 h2 _ => by
      obtain ⟨t1, e1⟩ := ints_get i1 j (by simpa using h1)
      obtain ⟨t2, e2⟩ := ints_get i2 j (by simpa using h2)
      rw [List.getElem_toArray, List.getElem_toArray, e1, e2]
      intro prog w E Q h
      exact (ge_int h : wpAny (model prog w) X.A.in1 (compareOp .GtE _ _) Q E s))
  refine go X.prog X.w _ _ ⟨.bl (lexGe ns ms), H, I, ?_, q⟩
  show Value.bool _ = Value.bool _
  rw [List.size_toArray, List.size_toArray, l1, l2, List.range_eq_range', firstGe ns ms _ 0 (by omega), List.drop_zero, List.drop_zero]
theorem d_geT {K : PySem.W.Frag} {H : Hp} {Q : VK} {a b : Addr} {ns ms : List Int} (ha : H a = some (.tup (ns.map V.int))) (hb : H b = some (.tup (ms.map V.int))) (q : Q (.bl (lexGe ns ms)) H) : rGeT K (.ref a) (.ref b) H Q := ⟨a, b, ns, ms, rfl, rfl, sqT ha, sqT hb, q⟩
theorem k_bb : kitB "bool" "bool" = some true := by decide +kernel
theorem d_isBB {K : PySem.W.Frag} {H : Hp} {Q : VK} {b : Bool} (q : Q (.bl true) H) : rIsi K [.bl b, .ty "bool"] H Q := ⟨_, _, _, _, true, rfl, .ty _, .base (.bl b), kit_ty k_bb, q⟩
theorem d_catA {K : PySem.W.Frag} {H : Hp} {Q : VK} {a b : Addr} {xs ys : List V} (ha : H a = some (.tup xs)) (hb : H b = some (.tup ys)) (hz : xs.length + ys.length ≤ 1000000)
    (q0 : xs = [] → Q (.ref b) H) (q1 : xs ≠ [] → ys = [] → Q (.ref a) H) (q2 : xs ≠ [] → ys ≠ [] → ∀ p, H p = none → Q (.ref p) (upd H p (.tup (xs ++ ys)))) : rCatA K (.ref a) (.ref b) H Q := ⟨a, b, xs, ys, rfl, rfl, sqT ha, sqT hb, smallN hz, q0, q1, q2⟩
theorem d_slA {K : PySem.W.Frag} {H : Hp} {Q : VK} {a : Addr} {xs : List V} {n : Nat} (ha : H a = some (.tup xs)) (hn : n ≤ xs.length) (q1 : n = xs.length → Q (.ref a) H) (q2 : ∀ p, H p = none → Q (.ref p) (upd H p (.tup (xs.take n)))) : rSlA K (.ref a) none (some (n : Int)) H Q := by
  refine ⟨a, xs, rfl, sqT ha, fun z => ?_, fun z p hp => ?_⟩
  · rw [HT.sIx_nat] at z
    exact q1 (by omega)
  · have e : cutV xs none (some (n : Int)) = xs.take n := by
      unfold cutV
      rw [HT.sIx_none, HT.sIx_nat, List.drop_zero, Nat.sub_zero, Nat.min_eq_left hn]
    rw [e]
    exact q2 p hp
/-- t[:n], however it comes about -/
theorem d_slK {K : PySem.W.Frag} {H : Hp} {Q : VK} {a : Addr} {xs : List V} {n : Nat} (ha : H a = some (.tup xs)) (hn : n ≤ xs.length) (q : ∀ p H', Kp [] H H' → H' p = some (.tup (xs.take n)) → Q (.ref p) H') : rSlA K (.ref a) none (some (n : Int)) H Q :=
  d_slA ha hn (fun e => q a H (Kp.refl _ _) (by rw [e, List.take_length]; exact ha)) fun p hp => q p _ (Kp.new hp) upd_same
/-- t + u, however it comes about -/
theorem d_catK {K : PySem.W.Frag} {H : Hp} {Q : VK} {a b : Addr} {xs ys : List V} (ha : H a = some (.tup xs)) (hb : H b = some (.tup ys)) (hz : xs.length + ys.length ≤ 1000000)
    (q : ∀ p H', Kp [] H H' → H' p = some (.tup (xs ++ ys)) → Q (.ref p) H') : rCatA K (.ref a) (.ref b) H Q :=
  d_catA ha hb hz (fun e => q b H (Kp.refl _ _) (by rw [e]; exact hb)) (fun _ e => q a H (Kp.refl _ _) (by rw [e, List.append_nil]; exact ha)) fun _ _ p hp => q p _ (Kp.new hp) upd_same
end Lw

set_option maxRecDepth 100000
set_option maxHeartbeats 4000000
/-! bounds: when what they bind is lower -/
namespace Lw
open PySem L2
abbrev Bd := Option (Int × Bool)
def cut1 (s : Bool) : Int := if s = true then 1 else 0
/-- the numbers respect the bounds -/
def Resp (ns : List Int) (bs : List Bd) (rs : List Int) : Prop := ∀ (k : Nat) (p : Int) (s : Bool), bs[k]? = some (some (p, s)) → ns.getD k 0 ≤ rs.getD p.toNat 0 - cut1 s
/-- lower, by the bounds -/
def Low (bs : List Bd) : Prop := ∃ j : Nat, bs[j]? = some (some ((j : Int), true)) ∧ ∀ i, i < j → bs[i]? = some (some ((i : Int), false))
/-- all rows of m of these -/
def rowsOf (is : List Int) : Nat → List (List Int)
  | 0 => [[]]
  | m + 1 => (rowsOf is m).flatMap fun r => is.map fun t => r ++ [t]
theorem mem_rows (is : List Int) : ∀ (m : Nat) (r : List Int), r ∈ rowsOf is m ↔ r.length = m ∧ ∀ x ∈ r, x ∈ is
  | 0, r => by
    show r ∈ [[]] ↔ _
    constructor
    · intro h
      rw [List.mem_singleton.mp h]
      exact ⟨rfl, fun x hx => by cases hx⟩
    · rintro ⟨h, _⟩
      rw [List.length_eq_zero_iff.mp h]
      exact List.mem_singleton.mpr rfl
  | m + 1, r => by
    show r ∈ (rowsOf is m).flatMap _ ↔ _
    rw [List.mem_flatMap]
    constructor
    · rintro ⟨q, hq, hr⟩
      obtain ⟨t, ht, rfl⟩ := List.mem_map.mp hr
      obtain ⟨l, hx⟩ := (mem_rows is m q).mp hq
      refine ⟨by rw [List.length_append, l]; rfl, fun x h => ?_⟩
      rcases List.mem_append.mp h with h | h
      · exact hx x h
      · rw [List.mem_singleton.mp h]; exact ht
    · rintro ⟨l, hx⟩
      have hn : r ≠ [] := fun z => by rw [z] at l; cases l
      refine ⟨r.dropLast, (mem_rows is m _).mpr ⟨by rw [List.length_dropLast, l]; rfl, fun x h => hx x (List.dropLast_subset r h)⟩, List.mem_map.mpr ⟨r.getLast hn, hx _ (List.getLast_mem hn), List.dropLast_concat_getLast hn⟩⟩
theorem len_rows (is : List Int) : ∀ m, (rowsOf is m).length = is.length ^ m
  | 0 => rfl
  | m + 1 => by
    show ((rowsOf is m).flatMap _).length = _
    rw [List.length_flatMap, show (fun r : List Int => (is.map fun t => r ++ [t]).length) = fun _ => is.length from funext fun r => by rw [List.length_map], List.map_const', List.sum_replicate_nat, len_rows is m, Nat.pow_succ]
theorem lex_less : ∀ (j : Nat) (ns ms : List Int), j < ns.length → j < ms.length → (∀ i, i < j → ns.getD i 0 ≤ ms.getD i 0) → ns.getD j 0 < ms.getD j 0 → lexGe ns ms = false
  | _, [], _, h, _, _, _ => absurd h (Nat.not_lt_zero _)
  | _, _ :: _, [], _, h, _, _ => absurd h (Nat.not_lt_zero _)
  | 0, x :: xs, y :: ys, _, _, _, hj => by
    have hj' : x < y := hj
    rw [lexGe_cons, if_neg (by omega)]
    exact decide_eq_false (by omega)
  | j + 1, x :: xs, y :: ys, h1, h2, hi, hj => by
    have h0 : x ≤ y := hi 0 (Nat.succ_pos _)
    rw [lexGe_cons]
    by_cases c : x = y
    · rw [if_pos c]
      exact lex_less j xs ys (Nat.lt_of_succ_lt_succ h1) (Nat.lt_of_succ_lt_succ h2) (fun i h => hi (i + 1) (Nat.succ_lt_succ h)) hj
    · rw [if_neg c]
      exact decide_eq_false (by omega)
theorem lex_more : ∀ (j : Nat) (ns ms : List Int), ns.length = ms.length → (∀ i, i < j → ns.getD i 0 = ms.getD i 0) → (ns.length ≤ j ∨ ms.getD j 0 < ns.getD j 0) → lexGe ns ms = true
  | _, [], [], _, _, _ => rfl
  | _, [], _ :: _, h, _, _ => nomatch h
  | _, _ :: _, [], h, _, _ => nomatch h
  | 0, x :: xs, y :: ys, _, _, hj => by
    rcases hj with hj | hj
    · exact absurd hj (Nat.not_succ_le_zero _)
    · have hj' : y < x := hj
      rw [lexGe_cons, if_neg (by omega)]
      exact decide_eq_true (by omega)
  | j + 1, x :: xs, y :: ys, h, hi, hj => by
    have h0 : x = y := hi 0 (Nat.succ_pos _)
    rw [lexGe_cons, if_pos h0]
    exact lex_more j xs ys (Nat.succ.inj h) (fun i h => hi (i + 1) (Nat.succ_lt_succ h)) (hj.imp Nat.le_of_succ_le_succ id)
def Wit (bs : List Bd) (rs ns : List Int) : Prop := lexGe ns (rs.take bs.length) = true ∧ Resp ns bs rs
theorem getD_map_range (f : Nat → Int) {n i : Nat} (h : i < n) : ((List.range n).map f).getD i 0 = f i := by
  rw [List.getD_eq_getElem?_getD, List.getElem?_map, List.getElem?_range h]
  rfl
theorem getD_far (l : List Int) {i : Nat} (h : l.length ≤ i) : l.getD i 0 = 0 := by
  rw [List.getD_eq_getElem?_getD, List.getElem?_eq_none h]
  rfl
theorem getD_take (rs : List Int) {n i : Nat} (h : i < n) : (rs.take n).getD i 0 = rs.getD i 0 := by
  rw [List.getD_eq_getElem?_getD, List.getElem?_take, if_pos h, ← List.getD_eq_getElem?_getD]
theorem low_none {bs : List Bd} {rs ns : List Int} (h : Low bs) (l4 : bs.length ≤ 4) (lr : rs.length = 4) (ln : ns.length = bs.length) : ¬ Wit bs rs ns := by
  rintro ⟨hg, hr⟩
  obtain ⟨j, ej, ei⟩ := h
  have hj : j < bs.length := (List.getElem?_eq_some_iff.mp ej).1
  have e : lexGe ns (rs.take bs.length) = false := by
    refine lex_less j _ _ (by omega) (by rw [List.length_take]; omega) (fun i hi => ?_) ?_
    · have := hr i _ _ (ei i hi)
      rw [getD_take _ (by omega)]
      simpa [cut1] using this
    · have := hr j _ _ ej
      rw [getD_take _ hj]
      simp only [cut1, if_true, Int.toNat_natCast] at this
      omega
  rw [e] at hg
  cases hg
theorem wit_of {bs : List Bd} (hp : ∀ (k : Nat) (p : Int) (s : Bool), bs[k]? = some (some (p, s)) → 0 ≤ p ∧ p < 4) (l4 : bs.length ≤ 4) (rk : Nat → Int) (h1 : ∀ i, rk i = 1 ∨ rk i = 3) (j : Nat) (x : Int) (hx : 2 ≤ x ∧ x ≤ 3) (hi : ∀ i, i < j → bs[i]? = some (some ((i : Int), false)))
    (hj : bs.length ≤ j ∨ (rk j = 1 ∧ ∀ p s, bs[j]? = some (some (p, s)) → x ≤ rk p.toNat - cut1 s)) :
    ∃ rs ∈ rowsOf [1, 3] 4, ∃ ns ∈ rowsOf [0, 1, 2, 3] bs.length, Wit bs rs ns := by
  have gr : ∀ i, i < 4 → ((List.range 4).map rk).getD i 0 = rk i := fun i h => getD_map_range rk h
  have gn : ∀ i, i < bs.length → ((List.range bs.length).map fun i => if i < j then rk i else if i = j then x else 0).getD i 0 = if i < j then rk i else if i = j then x else 0 := fun i h => getD_map_range _ h
  refine ⟨(List.range 4).map rk, (mem_rows _ _ _).mpr ⟨by rw [List.length_map, List.length_range], fun y hy => ?_⟩, (List.range bs.length).map (fun i => if i < j then rk i else if i = j then x else 0), (mem_rows _ _ _).mpr ⟨by rw [List.length_map, List.length_range], fun y hy => ?_⟩, ?_, fun k p s e => ?_⟩
  · obtain ⟨i, _, rfl⟩ := List.mem_map.mp hy
    rcases h1 i with e | e <;> simp [e]
  · obtain ⟨i, _, rfl⟩ := List.mem_map.mp hy
    by_cases c : i < j
    · simp only [if_pos c]
      rcases h1 i with e | e <;> simp [e]
    · by_cases d : i = j
      · simp only [if_neg c, if_pos d]
        have : x = 2 ∨ x = 3 := by omega
        rcases this with e | e <;> simp [e]
      · simp only [if_neg c, if_neg d]
        simp
  · refine lex_more j _ _ (by rw [List.length_take]; simp only [List.length_map, List.length_range]; omega) (fun i hij => ?_) ?_
    · by_cases hb : i < bs.length
      · rw [gn i hb, if_pos hij, getD_take _ hb, gr i (by omega)]
      · rw [getD_far _ (by simp only [List.length_map, List.length_range]; omega), getD_far _ (by rw [List.length_take]; simp only [List.length_map, List.length_range]; omega)]
    · by_cases hb : bs.length ≤ j
      · exact .inl (by simp only [List.length_map, List.length_range]; exact hb)
      · rcases hj with z | ⟨z, _⟩
        · exact absurd z hb
        · refine .inr ?_
          rw [gn j (by omega), if_neg (Nat.lt_irrefl _), if_pos rfl, getD_take _ (by omega), gr j (by omega), z]
          omega
  · have hk : k < bs.length := (List.getElem?_eq_some_iff.mp e).1
    obtain ⟨p0, p4⟩ := hp k p s e
    rw [gn k hk, gr _ (by omega)]
    by_cases c : k < j
    · rw [if_pos c]
      rw [hi k c] at e
      cases e
      simp [cut1]
    · rw [if_neg c]
      by_cases d : k = j
      · subst d
        rw [if_pos rfl]
        rcases hj with z | ⟨_, z⟩
        · omega
        · exact z p s e
      · rw [if_neg d]
        have := h1 p.toNat
        have c1 : cut1 s ≤ 1 := by unfold cut1; split <;> omega
        omega
theorem all_or_first (bs : List Bd) : ∀ n, n ≤ bs.length → (∀ i, i < n → bs[i]? = some (some ((i : Int), false))) ∨ ∃ j, j < n ∧ (∀ i, i < j → bs[i]? = some (some ((i : Int), false))) ∧ bs[j]? ≠ some (some ((j : Int), false))
  | 0, _ => .inl fun i h => absurd h (Nat.not_lt_zero _)
  | n + 1, hn => by
    rcases all_or_first bs n (by omega) with h | ⟨j, h1, h2, h3⟩
    · by_cases c : bs[n]? = some (some ((n : Int), false))
      · exact .inl fun i hi => by
          by_cases d : i = n
          · rw [d]; exact c
          · exact h i (by omega)
      · exact .inr ⟨n, Nat.lt_succ_self _, h, c⟩
    · exact .inr ⟨j, by omega, h2, h3⟩
theorem not_low {bs : List Bd} (h : ¬ Low bs) (hp : ∀ (k : Nat) (p : Int) (s : Bool), bs[k]? = some (some (p, s)) → 0 ≤ p ∧ p < 4) (l4 : bs.length ≤ 4) : ∃ rs ∈ rowsOf [1, 3] 4, ∃ ns ∈ rowsOf [0, 1, 2, 3] bs.length, Wit bs rs ns := by
  rcases all_or_first bs bs.length (Nat.le_refl _) with ha | ⟨j, h1, h2, h3⟩
  · exact wit_of hp l4 (fun _ => 1) (fun _ => .inl rfl) bs.length 2 (by omega) ha (.inl (Nat.le_refl _))
  · have ej : bs[j]? = some bs[j] := List.getElem?_eq_getElem h1
    cases eb : bs[j] with
    | none =>
      rw [eb] at ej
      exact wit_of hp l4 (fun _ => 1) (fun _ => .inl rfl) j 3 (by omega) h2 (.inr ⟨rfl, fun p s z => by rw [ej] at z; cases z⟩)
    | some ps =>
      obtain ⟨p, s⟩ := ps
      rw [eb] at ej
      obtain ⟨p0, p4⟩ := hp j p s ej
      have hne : p.toNat ≠ j := fun z => by
        have e : p = (j : Int) := by omega
        subst e
        cases s with
        | true => exact h ⟨j, ej, h2⟩
        | false => exact h3 ej
      refine wit_of hp l4 (fun i => if i = p.toNat then 3 else 1) (fun i => by by_cases c : i = p.toNat <;> simp [c]) j (3 - cut1 s) (by unfold cut1; split <;> omega) h2 (.inr ⟨if_neg (Ne.symm hne), fun p' s' z => ?_⟩)
      rw [ej] at z
      cases z
      simp
theorem low_iff {bs : List Bd} (hp : ∀ (k : Nat) (p : Int) (s : Bool), bs[k]? = some (some (p, s)) → 0 ≤ p ∧ p < 4) (l4 : bs.length ≤ 4) : Low bs ↔ ¬ ∃ rs ∈ rowsOf [1, 3] 4, ∃ ns ∈ rowsOf [0, 1, 2, 3] bs.length, Wit bs rs ns := by
  constructor
  · rintro h ⟨rs, hrs, ns, hns, z⟩
    exact low_none h l4 ((mem_rows _ _ _).mp hrs).1 ((mem_rows _ _ _).mp hns).1 z
  · intro h
    by_cases c : Low bs
    · exact c
    · exact absurd (not_low c hp l4) h
end Lw

set_option maxRecDepth 100000
set_option maxHeartbeats 4000000
/-! lists of things on the heap; what the defs of k47 promise -/
namespace Lw
open PySem PySem.Spec
open PyProof.Rows L2
/-- each value stands for its thing -/
structure Lat {α : Type} (R : Hp → V → α → Prop) (H : Hp) (vs : List V) (ts : List α) : Prop where
  len : vs.length = ts.length
  at' : ∀ (i : Nat) v t, vs[i]? = some v → ts[i]? = some t → R H v t
section
variable {α : Type} {R : Hp → V → α → Prop} {H H' : Hp} {vs : List V} {ts : List α} {v : V} {t : α}
theorem Lat.nil : Lat R H [] [] := ⟨rfl, fun i v t e => nomatch (show (none : Option V) = some v from by simpa using e)⟩
theorem Lat.snoc (h : Lat R H vs ts) (r : R H v t) : Lat R H (vs ++ [v]) (ts ++ [t]) := by
  refine ⟨by rw [List.length_append, List.length_append, h.len]; rfl, fun i w u ew eu => ?_⟩
  by_cases c : i < vs.length
  · rw [List.getElem?_append_left c] at ew
    rw [List.getElem?_append_left (by rw [← h.len]; exact c)] at eu
    exact h.at' i w u ew eu
  · rw [List.getElem?_append_right (by omega)] at ew
    rw [List.getElem?_append_right (by rw [← h.len]; omega), ← h.len] at eu
    cases hd : i - vs.length with
    | zero =>
      rw [hd] at ew eu
      cases ew
      cases eu
      exact r
    | succ n =>
      rw [hd] at ew
      cases ew
theorem Lat.one (r : R H v t) : Lat R H [v] [t] := Lat.nil.snoc r
theorem Lat.keep (h : Lat R H vs ts) (f : ∀ v t, R H v t → R H' v t) : Lat R H' vs ts := ⟨h.len, fun i v t a b => f v t (h.at' i v t a b)⟩
theorem Lat.get (h : Lat R H vs ts) {i : Nat} (e : vs[i]? = some v) : ∃ t, ts[i]? = some t ∧ R H v t := by
  have hi := (List.getElem?_eq_some_iff.mp e).1
  have ht : i < ts.length := by rw [← h.len]; exact hi
  exact ⟨ts[i], List.getElem?_eq_getElem ht, h.at' i v _ e (List.getElem?_eq_getElem ht)⟩
end
/-- a tuple of ints -/
def RowAt (H : Hp) (v : V) (r : List Int) : Prop := ∃ a, v = .ref a ∧ H a = some (.tup (r.map V.int))
theorem RowAt.keepT {H H' : Hp} {v : V} {r : List Int} (k : KeepT H H') (h : RowAt H v r) : RowAt H' v r := let ⟨a, e, q⟩ := h; ⟨a, e, k _ _ q⟩
/-- None, or a pair of a place and a flag -/
def BdAt (H : Hp) (v : V) (b : Bd) : Prop := (b = none ∧ v = .non) ∨ ∃ a p s, b = some (p, s) ∧ v = .ref a ∧ H a = some (.tup [.int p, .bl s])
theorem BdAt.keepT {H H' : Hp} {v : V} {b : Bd} (k : KeepT H H') (h : BdAt H v b) : BdAt H' v b := h.imp id fun ⟨a, p, s, e, f, q⟩ => ⟨a, p, s, e, f, k _ _ q⟩
theorem Lat.kp {α : Type} {R : Hp → V → α → Prop} {H H' : Hp} {vs : List V} {ts : List α} {l : List Addr} (h : Lat R H vs ts) (f : ∀ {H H' : Hp} {v : V} {t : α}, KeepT H H' → R H v t → R H' v t) (k : Kp l H H') (hl : ∀ a ∈ l, ∀ xs, H a ≠ some (.tup xs)) : Lat R H' vs ts :=
  h.keep fun _ _ => f (k.keepT hl)
def bdD : Bd → PyData
  | none => .none
  | some (p, s) => .tuple [.int p, .bool s]
theorem bd_dp {K : PySem.W.Frag} {H : Hp} {v : V} {b : Bd} (h : BdAt H v b) : Dp K H v (bdD b) := by
  rcases h with ⟨rfl, rfl⟩ | ⟨a, p, s, rfl, rfl, e⟩
  · exact .non
  · exact .tup (sqT e) (.cons (.int p) (.cons (.bl s) .nil))
theorem bd_shaped (b : Bd) : SeqAt.shaped (bdD b) = true := by
  cases b with
  | none => rfl
  | some ps => rfl
theorem bd_eqv (b : Bd) (i : Int) (s : Bool) : PyData.eqv (bdD b) (bdD (some (i, s))) = decide (b = some (i, s)) := by
  cases b with
  | none => rfl
  | some ps =>
    obtain ⟨p, s'⟩ := ps
    show PyData.eqv (.tuple [.int p, .bool s']) (.tuple [.int i, .bool s]) = _
    simp only [PyData.eqv, PyData.eqvAll, Bool.and_true]
    rw [Bool.eq_iff_iff, Bool.and_eq_true, beq_iff_eq, beq_iff_eq, decide_eq_true_iff, Option.some.injEq, Prod.mk.injEq]
theorem d_eqBd {K : PySem.W.Frag} {H : Hp} {Q : VK} {x : V} {b : Bd} {q : Addr} {i : Int} {s : Bool} (hx : BdAt H x b) (hq : H q = some (.tup [.int i, .bl s])) (h : Q (.bl (decide (b = some (i, s)))) H) : rEqD K x (.ref q) H Q :=
  ⟨bdD b, bdD (some (i, s)), bd_dp hx, bd_dp (.inr ⟨q, i, s, rfl, rfl, hq⟩), bd_shaped _, bd_shaped _, by rw [bd_eqv]; exact h⟩
theorem d_neBd {K : PySem.W.Frag} {H : Hp} {Q : VK} {x : V} {b : Bd} {q : Addr} {i : Int} {s : Bool} (hx : BdAt H x b) (hq : H q = some (.tup [.int i, .bl s])) (h : Q (.bl (!decide (b = some (i, s)))) H) : rNeD K x (.ref q) H Q :=
  ⟨bdD b, bdD (some (i, s)), bd_dp hx, bd_dp (.inr ⟨q, i, s, rfl, rfl, hq⟩), bd_shaped _, bd_shaped _, by rw [bd_eqv]; exact h⟩
theorem d_gtup2 {K : PySem.W.Frag} {H : Hp} {Q : L2.St → Hp → Prop} {σ : L2.St} {p : Addr} {i j : Nat} {x y : V} (e : H p = some (.tup [x, y])) (q : Q ((σ.set i (some x)).set j (some y)) H) : gTup K 2 (gCons (gName i) (gCons (gName j) gNil)) (.ref p) σ H Q :=
  ⟨p, [x, y], rfl, sqT e, rfl, x, [y], rfl, y, [], rfl, rfl, q⟩
theorem d_notN {H : Hp} {Q : VK} {x : V} (q : Q (.bl (!decide (x = .non))) H) : rNotN x .non H Q := ⟨rfl, q⟩
def spChoices : Sp := fun vs H Q _ => ∃ (a : Addr) (is : List Int) (m : Nat), vs = [.ref a, .int m] ∧ H a = some (.lst (is.map V.int)) ∧ is.length ≤ 4 ∧ m ≤ 4 ∧
  ∀ H' p ws, Kp [] H H' → H p = none → H' p = some (.lst ws) → Lat RowAt H' ws (rowsOf is m) → Q (.ref p) H'
def spRespects : Sp := fun vs H Q _ => ∃ (x y : V) (l : Addr) (ns rs : List Int) (bv : List V) (bs : List Bd), vs = [x, .ref l, y] ∧ RowAt H x ns ∧ RowAt H y rs ∧ H l = some (.lst bv) ∧ Lat BdAt H bv bs ∧ bs.length ≤ 4 ∧ ns.length = bs.length ∧ rs.length = 4 ∧
  (∀ (k : Nat) (p : Int) (s : Bool), bs[k]? = some (some (p, s)) → 0 ≤ p ∧ p < 4) ∧ ∀ H' b, Kp [] H H' → (b = true ↔ Resp ns bs rs) → Q (.bl b) H'
def spLower : Sp := fun vs H Q _ => ∃ (a : Addr) (bv : List V) (bs : List Bd), vs = [.ref a] ∧ H a = some (.tup bv) ∧ Lat BdAt H bv bs ∧ bs.length ≤ 4 ∧ ∀ H' b, Kp [] H H' → (b = true ↔ Low bs) → Q (.bl b) H'
end Lw

set_option maxRecDepth 100000
set_option maxHeartbeats 4000000
/-! list(zip(t, u)), t and u tuples -/
namespace Lw
open PySem PySem.Spec PySem.Calls
open PyProof.Rows L2
/-! ### several objects laid at once -/
def ovr (H : Hp) (f : Addr → Option HO) : Hp := fun b => match f b with
  | some o => some o
  | none => H b
theorem ovr_new {H : Hp} {f : Addr → Option HO} {b : Addr} {o : HO} (e : f b = some o) : ovr H f b = some o := by
  unfold ovr
  rw [e]
theorem ovr_old {H : Hp} {f : Addr → Option HO} {b : Addr} (e : f b = none) : ovr H f b = H b := by
  unfold ovr
  rw [e]
theorem laid_all {X : Cx} {pins : List (Addr × Obj)} {σ : L2.St} {H : Hp} {s : Shared} {h' : Heap} {t' : Nat} {f : Addr → Option HO} (I : Inv X pins σ H s) (k : ∀ b u, s.heap.get? b = some u → h'.get? b = some u)
    (hp : ∀ a o, f a = some o → s.heap.objs.size ≤ a) (new : ∀ a o, f a = some o → ObjOk X.prog X.w (ovr H f) h' a o) : Inv X pins σ (ovr H f) { s with heap := h', toks := t' } := by
  have off : ∀ {b : Addr} {u : HO}, H b = some u → f b = none := fun {b u} e => by
    cases z : f b with
    | none => rfl
    | some o => rw [I.hok.fresh (hp b o z)] at e; cases e
  have low : ∀ {b : Addr} {u : Obj}, s.heap.get? b = some u → f b = none := fun {b u} e => by
    cases z : f b with
    | none => rfl
    | some o => exact absurd (Heap.lt_size e) (Nat.not_lt.mpr (hp b o z))
  have old : ∀ {b : Addr} {u : HO}, H b = some u → ovr H f b = some u := fun e => (ovr_old (off e)).trans e
  refine I.un ⟨fun b u q _ _ _ => k b u q, fun b u q _ _ _ => ⟨u.slots, k b u q⟩, fun b u q n _ => (ovr_old (low q)).trans n, fun b u q _ => ⟨u, k b u q⟩, fun b xs q => old q, fun b u xs q => old q, fun b ps q => ⟨#[], by rw [old q]; simp⟩⟩ fun b u e => ?_
  cases z : f b with
  | some o =>
    rw [ovr_new z] at e
    cases e
    exact new b _ z
  | none =>
    rw [ovr_old z] at e
    exact (I.hok b u e).stay (fun c v _ q => k c v q) (fun c q => old q) fun c xs q => old q
/-! ### the zip's turns, told for a filling list at S -/
section
variable {prog : Program} {w : World} {A : Around} {E : Value → Shared → Prop} {s : Shared} {S z TI TO i1 i2 l1 l2 : Addr} {xs ys : Array Value}
structure ZSt (S z TI TO i1 i2 l1 l2 : Addr) (xs ys : Array Value) (i : Nat) (h : Heap) : Prop where
  out : IsZip h z TI TO .none ∨ ∃ T f oT, IsZipHeld h z TI TO T f ∧ h.get? T = some oT ∧ S < T
  ins : IsPair h TI (.ref i1) (.ref i2)
  out2 : ∃ a b, IsPair h TO a b
  it1 : h.IsTupleIter i1 l1 i
  it2 : h.IsTupleIter i2 l2 i
  tp1 : h.IsTuple l1 xs
  tp2 : h.IsTuple l2 ys
/-- the cells of the zip lie apart, and below S -/
structure ZLow (S z TI TO i1 i2 l1 l2 : Addr) : Prop where
  D : ZipApart z TI TO i1 i2 l1 l2
  z : z < S
  TI : TI < S
  TO : TO < S
  i1 : i1 < S
  i2 : i2 < S
  l1 : l1 < S
  l2 : l2 < S
def zCells (z TO i1 i2 c : Addr) : Prop := c ≠ z ∧ c ≠ TO ∧ c ≠ i1 ∧ c ≠ i2
theorem ZLow.above (L : ZLow S z TI TO i1 i2 l1 l2) {c : Addr} (h : S ≤ c) : zCells z TO i1 i2 c :=
  ⟨Nat.ne_of_gt (Nat.lt_of_lt_of_le L.z h), Nat.ne_of_gt (Nat.lt_of_lt_of_le L.TO h), Nat.ne_of_gt (Nat.lt_of_lt_of_le L.i1 h), Nat.ne_of_gt (Nat.lt_of_lt_of_le L.i2 h)⟩
theorem ZSt.keep {i : Nat} {h h' : Heap} (st : ZSt S z TI TO i1 i2 l1 l2 xs ys i h) (L : ZLow S z TI TO i1 i2 l1 l2) (k : ∀ b o, b ≠ S → h.get? b = some o → h'.get? b = some o) : ZSt S z TI TO i1 i2 l1 l2 xs ys i h' := by
  refine ⟨?_, k _ _ (Nat.ne_of_lt L.TI) st.ins, ?_, st.it1.at fun o e => k _ _ (Nat.ne_of_lt L.i1) e, st.it2.at fun o e => k _ _ (Nat.ne_of_lt L.i2) e, st.tp1.at fun o e => k _ _ (Nat.ne_of_lt L.l1) e, st.tp2.at fun o e => k _ _ (Nat.ne_of_lt L.l2) e⟩
  · rcases st.out with h1 | ⟨T, f, oT, h1, h2, h3⟩
    · exact .inl (k _ _ (Nat.ne_of_lt L.z) h1)
    · exact .inr ⟨T, f, oT, k _ _ (Nat.ne_of_lt L.z) h1, k _ _ (Nat.ne_of_gt h3) h2, h3⟩
  · obtain ⟨a, b, e⟩ := st.out2
    exact ⟨a, b, k _ _ (Nat.ne_of_lt L.TO) e⟩
theorem zl_item {i : Nat} {Q : Option Value → Shared → Prop} (L : ZLow S z TI TO i1 i2 l1 l2) (st : ZSt S z TI TO i1 i2 l1 l2 xs ys i s.heap) (hS : S < s.heap.objs.size) {x y : Value} (hx : xs[i]? = some x) (hy : ys[i]? = some y)
    (q : ∀ h', ZSt S z TI TO i1 i2 l1 l2 xs ys (i + 1) h' → IsPair h' s.heap.objs.size x y → h'.objs.size = s.heap.objs.size + 1 → (∀ c o, zCells z TO i1 i2 c → s.heap.get? c = some o → h'.get? c = some o) → Q (some (.ref s.heap.objs.size)) { s with heap := h' }) :
    wpAny (model prog w) A (pyNext (.ref z)) Q E s := by
  have D := L.D
  obtain ⟨a, b, hTO⟩ := st.out2
  rcases st.out with hz | ⟨T, f, oT, hz, hT, hST⟩
  · refine RZ.pyNext_zipT_item D hz st.ins hTO st.it1 st.it2 st.tp1 st.tp2 hx hy fun h' e1 e2 e3 e4 e5 e6 k => q h' ⟨.inr ⟨_, false, _, e1, e5, hS⟩, ?_, ⟨_, _, e2⟩, e3, e4, ?_, ?_⟩ e5 e6 fun c o hc => k c o hc.1 hc.2.1 hc.2.2.1 hc.2.2.2
    · exact k _ _ D.TIz D.TITO D.TIi1 D.TIi2 st.ins
    · exact st.tp1.at fun o e => k _ _ D.l1z D.l1TO D.l1i1 D.l1i2 e
    · exact st.tp2.at fun o e => k _ _ D.l2z D.l2TO D.l2i1 D.l2i2 e
  · have hTy : s.TypeIs (.ref z) "zip" := ⟨_, hz, rfl⟩
    unfold pyNext
    refine wpAny_bind (wpAny_attempt (wpAny_callSpecial?_slot (name := Str.ofString "__next__") hTy F.slot_zip_next (wpAny_call_entry F.slot_zip_next hTy F.entry_zip_next (?_ : wpAny _ _ (Builtin.«zip.__next__» _) _ _ _) (F.args_zip_next_1 _))))
    show wpAny _ _ (field (.ref z) 2 >>= _) _ _ _
    refine wpAny_bind (wpAny_field hz rfl (x := .bool false) rfl (?_ : wpAny _ _ (field (.ref z) 3 >>= _) _ _ _))
    refine wpAny_bind (wpAny_field hz rfl (x := .ref TI) rfl (wpAny_bind (wpAny_seqItems st.ins rfl (?_ : wpAny _ _ (Builtin.SmallTypes.ownedTupleIsFree (.ref z) >>= _) _ _ _))))
    refine wpAny_bind (wpAny_tupleHeld_zip hz hT fun ha za sa => ?_)
    simp only [Bool.false_eq_true, if_false]
    have ka := sa.extBut
    refine wpAny_bind ?_
    rw [← Array.forIn_toList]
    simp only [List.forIn_cons, List.forIn_nil]
    refine wpAny_bind (wpAny_bind (wpAny_holding (?_ : wpAny _ _ (Builtin.SmallTypes.nextOf (.ref i1) >>= _) _ _ _)))
    refine wpAny_bind (wpAny_nextOf_tuple_item (s := { s with heap := ha }) (st.it1.extBut ka D.i1z) (st.tp1.extBut ka D.l1z) hx fun hb it1b sb => wpAny_pure (wpAny_pure ?_))
    have kb := sb.extBut
    refine wpAny_bind (wpAny_bind (wpAny_holding (?_ : wpAny _ _ (Builtin.SmallTypes.nextOf (.ref i2) >>= _) _ _ _)))
    refine wpAny_bind (wpAny_nextOf_tuple_item (s := { s with heap := hb }) ((st.it2.extBut ka D.i2z).extBut kb D.i12.symm) ((st.tp2.extBut ka D.l2z).extBut kb D.l2i1) hy fun hd it2d sd => wpAny_pure (wpAny_pure (wpAny_pure ?_)))
    have kd := sd.extBut
    have sz : hd.objs.size = s.heap.objs.size := by rw [sd.1, sb.1, sa.1]
    have all : ∀ c o, zCells z TO i1 i2 c → s.heap.get? c = some o → hd.get? c = some o := fun c o hc e => kd _ _ hc.2.2.2 (kb _ _ hc.2.2.1 (ka _ _ hc.1 e))
    show wpAny _ _ (newTuple [x, y] >>= _) _ _ _
    refine wpAny_bind (wpAny_newTuple (wpAny_pure ⟨_, rfl, ?_⟩))
    have pr : IsPair (hd.push { cls := .type "tuple", data := .seq #[x, y] }) hd.objs.size x y := Heap.get?_push_size _ rfl
    have s2 : (hd.push { cls := .type "tuple", data := .seq #[x, y] }).objs.size = hd.objs.size + 1 := Heap.size_push ..
    have kp : ∀ c o, hd.get? c = some o → (hd.push { cls := .type "tuple", data := .seq #[x, y] }).get? c = some o := fun c o e => Heap.get?_push_of_some _ e
    have zd : IsZipHeld hd z TI TO T true := kd _ _ D.i2z.symm (kb _ _ D.i1z.symm za)
    show wpAny _ _ (pure (some (Value.ref hd.objs.size))) _ _ _
    rw [sz] at pr s2 ⊢
    refine wpAny_pure (q _ ⟨.inr ⟨T, true, oT, kp _ _ zd, kp _ _ (all T oT (L.above (Nat.le_of_lt hST)) hT), hST⟩, kp _ _ (kd _ _ D.TIi2 (kb _ _ D.TIi1 (ka _ _ D.TIz st.ins))), ⟨a, b, kp _ _ (kd _ _ D.TOi2 (kb _ _ D.TOi1 (ka _ _ D.TOz hTO)))⟩, (it1b.extBut kd D.i12).at fun o e => kp _ _ e, it2d.at fun o e => kp _ _ e,
      (((st.tp1.extBut ka D.l1z).extBut kb D.l1i1).extBut kd D.l1i2).at fun o e => kp _ _ e, (((st.tp2.extBut ka D.l2z).extBut kb D.l2i1).extBut kd D.l2i2).at fun o e => kp _ _ e⟩ pr s2 fun c o hc e => kp _ _ (all c o hc e))
theorem zl_done {i : Nat} {Q : Option Value → Shared → Prop} (hh : A.handled = none) (L : ZLow S z TI TO i1 i2 l1 l2) (st : ZSt S z TI TO i1 i2 l1 l2 xs ys i s.heap) (he : xs[i]? = none ∨ ys[i]? = none)
    (q : ∀ h', (∀ c o, zCells z TO i1 i2 c → s.heap.get? c = some o → h'.get? c = some o) → Q none { s with heap := h' }) : wpAny (model prog w) A (pyNext (.ref z)) Q E s := by
  have D := L.D
  obtain ⟨a, b, hTO⟩ := st.out2
  rcases st.out with hz | ⟨T, f, oT, hz, hT, hST⟩
  · exact RZ.pyNext_zipT_end hh D hz st.ins hTO st.it1 st.it2 st.tp1 st.tp2 he fun h' k => q h' fun c o hc => k c o hc.1 hc.2.1 hc.2.2.1 hc.2.2.2
  · have hTy : s.TypeIs (.ref z) "zip" := ⟨_, hz, rfl⟩
    have fin : ∀ (h' : Heap) (e : Addr), (∀ c o, zCells z TO i1 i2 c → s.heap.get? c = some o → h'.get? c = some o) → (∃ o, h'.get? e = some o ∧ o.cls = .type "StopIteration") → wpAny (model prog w) A (isInstance (.ref e) (.type "StopIteration") >>= fun b => if b = true then pure none else throw (Value.ref e)) Q E { s with heap := h' } := fun h' e k he => by
      obtain ⟨o, ho, hc⟩ := he
      exact wpAny_bind (wpAny_isInstance (T := "StopIteration") (b := true) ⟨o, ho, hc⟩ isSubtype_stop (wpAny_pure (q _ k)))
    unfold pyNext
    refine wpAny_bind (wpAny_attempt (wpAny_callSpecial?_slot (name := Str.ofString "__next__") hTy F.slot_zip_next (wpAny_call_entry F.slot_zip_next hTy F.entry_zip_next (?_ : wpAny _ _ (Builtin.«zip.__next__» _) _ _ _) (F.args_zip_next_1 _))))
    show wpAny _ _ (field (.ref z) 2 >>= _) _ _ _
    refine wpAny_bind (wpAny_field hz rfl (x := .bool false) rfl (?_ : wpAny _ _ (field (.ref z) 3 >>= _) _ _ _))
    refine wpAny_bind (wpAny_field hz rfl (x := .ref TI) rfl (wpAny_bind (wpAny_seqItems st.ins rfl (?_ : wpAny _ _ (Builtin.SmallTypes.ownedTupleIsFree (.ref z) >>= _) _ _ _))))
    refine wpAny_bind (wpAny_tupleHeld_zip hz hT fun ha za sa => ?_)
    simp only [Bool.false_eq_true, if_false]
    have ka := sa.extBut
    refine wpAny_bind ?_
    rw [← Array.forIn_toList]
    simp only [List.forIn_cons, List.forIn_nil]
    refine wpAny_bind (wpAny_bind (wpAny_holding (?_ : wpAny _ _ (Builtin.SmallTypes.nextOf (.ref i1) >>= _) _ _ _)))
    cases hx : xs[i]? with
    | none =>
      refine wpAny_bind (wpAny_nextOf_tuple_end (s := { s with heap := ha }) hh (st.it1.extBut ka D.i1z) (st.tp1.extBut ka D.l1z) hx fun hb e kb oe => ?_)
      exact fin hb e (fun c o hc x => kb _ _ hc.2.2.1 (ka _ _ hc.1 x)) oe
    | some x =>
      have hy : ys[i]? = none := he.resolve_left fun z => by rw [hx] at z; cases z
      refine wpAny_bind (wpAny_nextOf_tuple_item (s := { s with heap := ha }) (st.it1.extBut ka D.i1z) (st.tp1.extBut ka D.l1z) hx fun hb it1b sb => wpAny_pure (wpAny_pure ?_))
      have kb := sb.extBut
      refine wpAny_bind (wpAny_bind (wpAny_holding (?_ : wpAny _ _ (Builtin.SmallTypes.nextOf (.ref i2) >>= _) _ _ _)))
      refine wpAny_bind (wpAny_nextOf_tuple_end (s := { s with heap := hb }) hh ((st.it2.extBut ka D.i2z).extBut kb D.i12.symm) ((st.tp2.extBut ka D.l2z).extBut kb D.l2i1) hy fun hd e kd oe => ?_)
      exact fin hd e (fun c o hc x => kd _ _ hc.2.2.2 (kb _ _ hc.2.2.1 (ka _ _ hc.1 x))) oe
end
end Lw

set_option maxRecDepth 100000
set_option maxHeartbeats 4000000
/-! list(zip(t, u)): the filling, the rule -/
namespace Lw
open PySem PySem.Spec PySem.Calls
open PyProof.Rows L2
section
variable {prog : Program} {w : World} {A : Around} {s : Shared} {S z TI TO i1 i2 l1 l2 : Addr} {xs ys : Array Value}
/-- the pairs of xs and ys lie at these addresses, in order, above S -/
structure ZG (xs ys : Array Value) (S : Addr) (h : Heap) (as : List Addr) : Prop where
  rise : as.Pairwise (· < ·)
  above : ∀ a ∈ as, S < a
  pairs : ∀ (j : Nat) (a : Addr), as[j]? = some a → ∃ x y, xs[j]? = some x ∧ ys[j]? = some y ∧ IsPair h a x y
theorem ZG.there {h : Heap} {as : List Addr} (g : ZG xs ys S h as) {a : Addr} (ha : a ∈ as) : a < h.objs.size := by
  obtain ⟨j, e⟩ := List.mem_iff_getElem?.mp ha
  obtain ⟨_, _, _, _, p⟩ := g.pairs j a e
  exact Heap.lt_size p
theorem ZG.keep {h h' : Heap} {as : List Addr} (g : ZG xs ys S h as) (k : ∀ b o, S < b → h.get? b = some o → h'.get? b = some o) : ZG xs ys S h' as :=
  ⟨g.rise, g.above, fun j a e => let ⟨x, y, e1, e2, p⟩ := g.pairs j a e; ⟨x, y, e1, e2, k a _ (g.above a (List.mem_of_getElem? e)) p⟩⟩
theorem ZG.snoc {h : Heap} {as : List Addr} {i : Nat} {b : Addr} {x y : Value} (g : ZG xs ys S h as) (hl : as.length = i) (hb : ∀ a ∈ as, a < b) (hS : S < b) (hx : xs[i]? = some x) (hy : ys[i]? = some y) (p : IsPair h b x y) : ZG xs ys S h (as ++ [b]) := by
  refine ⟨List.pairwise_append.mpr ⟨g.rise, List.pairwise_singleton _ _, fun a ha c hc => by rw [List.mem_singleton.mp hc]; exact hb a ha⟩, fun a ha => ?_, fun j a e => ?_⟩
  · rcases List.mem_append.mp ha with ha | ha
    · exact g.above a ha
    · rw [List.mem_singleton.mp ha]; exact hS
  · by_cases c : j < as.length
    · rw [List.getElem?_append_left c] at e
      exact g.pairs j a e
    · rw [List.getElem?_append_right (by omega)] at e
      cases d : j - as.length with
      | zero =>
        rw [d] at e
        cases e
        have : j = i := by omega
        subst this
        exact ⟨x, y, hx, hy, p⟩
      | succ n => rw [d] at e; cases e
theorem zl_loop {R : Result → Shared → Prop} (hh : A.handled = none) (L : ZLow S z TI TO i1 i2 l1 l2) {n : Nat} (hn : n = min xs.size ys.size) (hz : n ≤ sizeLine) (res : Value) {h₁ : Heap}
    (hR : ∀ h' acc c as, (∀ b o, b ≠ S → zCells z TO i1 i2 b → h₁.get? b = some o → h'.get? b = some o) → h'.get? S = some { cls := .type "list", dict := none, data := .seq acc c, slots := #[] } → as.length = n → ZG xs ys S h' as → acc.toList = as.map Value.ref → R (.ok (.ret res)) { s with heap := h' }) :
    ∀ (k i : Nat) (h : Heap) (c : Nat) (acc : Array Value) (as : List Addr), n - i = k → i ≤ n → ZSt S z TI TO i1 i2 l1 l2 xs ys i h → (∀ b o, b ≠ S → zCells z TO i1 i2 b → h₁.get? b = some o → h.get? b = some o) →
      h.get? S = some { cls := .type "list", dict := none, data := .seq acc c, slots := #[] } → acc.toList = as.map Value.ref → as.length = i → ZG xs ys S h as →
      codeAny (model prog w) A (.builtin "list.extend.loop" ⟨[.ref S, .ref z, res], []⟩) R { s with heap := h } := by
  intro k
  induction k with
  | zero =>
    intro i h c acc as hk hi st kp hS hacc hal hG
    refine codeAny_builtin F.entry_extend_loop (?_ : wpAny _ (A.under _) _ _ _ _)
    rw [Around.under_plainId F.plain_extend_loop _]
    show wpAny _ A.in1 (pyNext (.ref z) >>= _) _ _ _
    have hend : xs[i]? = none ∨ ys[i]? = none := by
      rcases Nat.lt_or_ge i xs.size with a | a
      · exact .inr (Array.getElem?_eq_none (by omega))
      · exact .inl (Array.getElem?_eq_none a)
    refine wpAny_bind (zl_done (s := { s with heap := h }) (A := A.in1) hh L st hend fun h' k' => ?_)
    exact wpAny_pure (hR h' acc c as (fun b o b1 b2 e => k' b o b2 (kp b o b1 b2 e)) (k' S _ (L.above (Nat.le_refl _)) hS) (by omega) (hG.keep fun b o hb e => k' b o (L.above (Nat.le_of_lt hb)) e) hacc)
  | succ k ih =>
    intro i h c acc as hk hi st kp hS hacc hal hG
    have i1' : i < xs.size := by omega
    have i2' : i < ys.size := by omega
    have hSl : S < h.objs.size := Heap.lt_size hS
    have hsz : acc.size = i := by rw [← Array.length_toList, hacc, List.length_map, hal]
    refine codeAny_builtin F.entry_extend_loop (?_ : wpAny _ (A.under _) _ _ _ _)
    rw [Around.under_plainId F.plain_extend_loop _]
    show wpAny _ A.in1 (pyNext (.ref z) >>= _) _ _ _
    refine wpAny_bind (zl_item (s := { s with heap := h }) L st hSl (Array.getElem?_eq_getElem i1') (Array.getElem?_eq_getElem i2') fun h' st' pr s2 kh => ?_)
    dsimp only at pr s2 kh ⊢
    have hS' := kh S _ (L.above (Nat.le_refl _)) hS
    have up : ∀ b o, b ≠ S → h'.get? b = some o → (h'.update S (Obj.mapSeq (·.push (Value.ref h.objs.size)))).get? b = some o := fun b o hb e => (Heap.get?_update_other _ _ (Ne.symm hb)).trans e
    show wpAny _ A.in1 (updateSeq S (·.push (Value.ref h.objs.size)) >>= _) _ _ _
    refine wpAny_bind ?_
    refine wpAny_updateSeq hS' rfl (wpAny_pure ⟨plainId_quiet F.plain_extend_loop _, ih (i + 1) _ _ (acc.push (Value.ref h.objs.size)) (as ++ [h.objs.size]) (by omega) (by omega) (st'.keep L up)
      (fun b o b1 b2 e => up b o b1 (kh b o b2 (kp b o b1 b2 e))) (Heap.get?_update_self _ hS' rfl) (by rw [Array.toList_push, hacc, List.map_append]; rfl) (by rw [List.length_append, hal]; rfl) ?_⟩) (by rw [hsz]; omega) (by show (acc.push (Value.ref h.objs.size)).size ≤ sizeLine + 1; rw [Array.size_push, hsz]; omega)
    refine ZG.snoc (hG.keep fun b o hb e => up b o (Nat.ne_of_gt hb) (kh b o (L.above (Nat.le_of_lt hb)) e)) hal (fun a ha => hG.there ha) hSl (Array.getElem?_eq_getElem i1') (Array.getElem?_eq_getElem i2') (up _ _ (Nat.ne_of_gt hSl) pr)
end
theorem zip_no_len : typeLookup (.type "zip") "__len__" = pure none := by rw [typeLookup_type, builtinLookup_eq_fast]; kernel_rfl
theorem zip_no_hint : typeLookup (.type "zip") "__length_hint__" = pure none := by rw [typeLookup_type, builtinLookup_eq_fast]; kernel_rfl
section
variable {prog : Program} {w : World} {A : Around} {E : Value → Shared → Prop} {s : Shared} {z TI TO i1 i2 l1 l2 : Addr} {xs ys : Array Value}
/-- a new list at S is filled -/
theorem zl_fill {R : Result → Shared → Prop} {S : Addr} {c0 : Nat} (hh : A.handled = none) (L : ZLow S z TI TO i1 i2 l1 l2) (zp : IsZip s.heap z TI TO .none) (st : ZSt S z TI TO i1 i2 l1 l2 xs ys 0 s.heap) (hz : min xs.size ys.size ≤ sizeLine) (res : Value) (hS : s.heap.get? S = some { cls := .type "list", data := .seq #[] c0 })
    (hR : ∀ h' acc c as, (∀ b o, b ≠ S → zCells z TO i1 i2 b → s.heap.get? b = some o → h'.get? b = some o) → h'.get? S = some { cls := .type "list", dict := none, data := .seq acc c, slots := #[] } → as.length = min xs.size ys.size → ZG xs ys S h' as → acc.toList = as.map Value.ref → R (.ok (.ret res)) { s with heap := h' }) :
    wpAny (model prog w) A.in1 (Builtin.List.listExtendWith (.ref S) (.ref z) res)
      (fun fin s' => match fin with | .done f => R (.ok f) s' | .again c' => c'.quiet = true ∧ codeAny (model prog w) A c' R s') (fun e s' => R (.error e) s') s := by
  have T : s.TypeIs (.ref z) "zip" := ⟨_, zp, rfl⟩
  have other : Builtin.List.listSameRef (.ref S) (.ref z) = false := by simp [Builtin.List.listSameRef, Nat.ne_of_gt L.z]
  have e2 := Heap.get?_update_self (Obj.mapSeq (·.push Value.none)) hS rfl
  have e3 := Heap.get?_update_self (Obj.mapSeq (·.pop)) e2 rfl
  have touch : ∀ {h : Heap} {f : Obj → Obj}, (∀ b o, b ≠ S → s.heap.get? b = some o → h.get? b = some o) → ∀ b o, b ≠ S → s.heap.get? b = some o → (h.update S f).get? b = some o := fun k b o hb e => (Heap.get?_update_other _ _ (Ne.symm hb)).trans (k b o hb e)
  have k3 := touch (f := Obj.mapSeq (·.pop)) (touch (f := Obj.mapSeq (·.push Value.none)) (fun b o _ e => e))
  unfold Builtin.List.listExtendWith; refine wpAny_bind (wpAny_typeOf T ?_)
  simp only [other, (by decide : (Value.type "zip" == Value.type "list") = false), (by decide : (Value.type "zip" == Value.type "tuple") = false), Bool.or_false, Bool.false_eq_true, if_false]
  refine wpAny_bind (wpAny_pyIter_zip zp (wpAny_bind (wpAny_holding ?_)))
  unfold Builtin.List.listLengthHint; refine wpAny_bind (wpAny_specialOf T zip_no_len (?_ : wpAny _ A.in1 (specialOf (Value.ref z) (Str.ofString "__length_hint__") >>= _) _ _ _))
  refine wpAny_bind (wpAny_specialOf T zip_no_hint (wpAny_pure ?_))
  refine wpAny_bind (m := rule "list.extend.makes-room") (wpAny_rule (wpAny_bind (m := Builtin.List.listTouch (.ref S)) ?_))
  refine wpAny_bind (m := updateSeq S (·.push .none)) (wpAny_updateSeq hS rfl (wpAny_updateSeq (hz := by seq_fits) e2 rfl (wpAny_pure ⟨plainId_quiet F.plain_extend_loop _, ?_⟩)))
  exact zl_loop hh L rfl hz res (h₁ := s.heap) hR _ 0 _ _ #[] [] rfl (Nat.zero_le _) (st.keep L k3) (fun b o hb _ e => k3 b o hb e) e3 rfl rfl ⟨List.Pairwise.nil, (fun _ ha => nomatch ha), (fun j a hj => by simp at hj)⟩
theorem zl_call {Q : Value → Shared → Prop} (hh : A.handled = none) (L : ZLow s.heap.objs.size z TI TO i1 i2 l1 l2) (zp : IsZip s.heap z TI TO .none) (st : ZSt s.heap.objs.size z TI TO i1 i2 l1 l2 xs ys 0 s.heap) (hz : min xs.size ys.size ≤ sizeLine)
    (hQ : ∀ h' acc c as, (∀ b o, zCells z TO i1 i2 b → s.heap.get? b = some o → h'.get? b = some o) → h'.get? s.heap.objs.size = some { cls := .type "list", dict := none, data := .seq acc c, slots := #[] } → as.length = min xs.size ys.size → ZG xs ys s.heap.objs.size h' as → acc.toList = as.map Value.ref → Q (.ref s.heap.objs.size) { s with heap := h' }) :
    wpAny (model prog w) A (call (.type "list") [.ref z]) Q E s := by
  refine callType_codes (Q₁ := fun obj s₁ => obj = .ref s.heap.objs.size ∧ s₁ = { s with heap := s.heap.push { cls := .type "list", data := .seq #[] } }) F.called_list (F.typeCall_list_1 _) F.entry_list_init (code_list_new _ ⟨rfl, rfl⟩) fun obj s₁ h₁ => ?_
  obtain ⟨rfl, rfl⟩ := h₁
  have hS : (s.heap.push { cls := .type "list", data := .seq #[] }).get? s.heap.objs.size = some { cls := .type "list", data := .seq #[] } := Heap.get?_push_size _ rfl
  have k1 : ∀ b o, s.heap.get? b = some o → (s.heap.push { cls := .type "list", data := .seq #[] }).get? b = some o := fun b o e => Heap.get?_push_of_some _ e
  refine ⟨⟨_, hS, rfl⟩, F.args_list_init_2 _ _, (?_ : wpAny _ _ (Builtin.«list.__init__» _) _ _ _)⟩
  show wpAny _ _ (do let old ← Builtin.List.listItems (.ref s.heap.objs.size); Builtin.List.listUpdate (.ref s.heap.objs.size) (fun _ => #[]); letGo old.toList.reverse; Builtin.List.listExtendWith (.ref s.heap.objs.size) (.ref z) .none) _ _ _
  unfold Builtin.List.listItems
  refine wpAny_bind (wpAny_bind (wpAny_seqItems hS rfl (wpAny_pure ?_)))
  show wpAny _ _ (updateSeq s.heap.objs.size (fun _ => #[]) >>= fun _ => letGo (#[] : Array Value).toList.reverse >>= fun _ => Builtin.List.listExtendWith (.ref s.heap.objs.size) (.ref z) .none) _ _ _
  have hS2 := Heap.get?_update_self (Obj.mapSeq (fun _ => (#[] : Array Value))) hS rfl
  have k2 : ∀ b o, b ≠ s.heap.objs.size → (s.heap.push { cls := .type "list", data := .seq #[] }).get? b = some o → ((s.heap.push { cls := .type "list", data := .seq #[] }).update s.heap.objs.size (Obj.mapSeq (fun _ => (#[] : Array Value)))).get? b = some o := fun b o hb e => (Heap.get?_update_other _ _ (Ne.symm hb)).trans e
  have k3 : ∀ b o, b ≠ s.heap.objs.size → s.heap.get? b = some o → ((s.heap.push { cls := .type "list", data := .seq #[] }).update s.heap.objs.size (Obj.mapSeq (fun _ => (#[] : Array Value)))).get? b = some o := fun b o hb e => k2 b o hb (k1 b o e)
  refine wpAny_bind (wpAny_updateSeq hS rfl (wpAny_bind (wpAny_letGo ?_)))
  refine zl_fill (A := A.in1) (s := { s with heap := _ }) hh L (k3 _ _ (Nat.ne_of_lt L.z) zp) (st.keep L k3) hz .none hS2 fun h' acc c as k4 e4 l4 g4 a4 => ?_
  exact ⟨rfl, hQ h' acc c as (fun b o hb e => k4 b o (Nat.ne_of_lt (Heap.lt_size e)) hb (k3 b o (Nat.ne_of_lt (Heap.lt_size e)) e)) e4 l4 g4 a4⟩
end
end Lw
namespace Lw
open PySem PySem.Spec PySem.Calls
open PyProof.Rows L2
/-- a pair on the heap -/
def PairAt (H : Hp) (v : V) (p : V × V) : Prop := ∃ a, v = .ref a ∧ H a = some (.tup [p.1, p.2])
theorem PairAt.keepT {H H' : Hp} {v : V} {p : V × V} (k : KeepT H H') (h : PairAt H v p) : PairAt H' v p := let ⟨a, e, q⟩ := h; ⟨a, e, k _ _ q⟩
def tListZip (K : PySem.W.Frag) (ta : TA) : TE := fun σ H Q => ta σ H fun vs H1 => ∃ a b xs ys, vs = [.ref a, .ref b] ∧ SqT K H1 a xs ∧ SqT K H1 b ys ∧
  ∀ H' p ws, Kp [] H1 H' → H1 p = none → H' p = some (.lst ws) → Lat PairAt H' ws (xs.zip ys) → Q (.ref p) H'
theorem map_lat {as : List Addr} {H : Hp} {zs : List (V × V)} (hl : as.length = zs.length) (h : ∀ (j : Nat) (a : Addr) (p : V × V), as[j]? = some a → zs[j]? = some p → H a = some (.tup [p.1, p.2])) : Lat PairAt H (as.map V.ref) zs := by
  refine ⟨by rw [List.length_map, hl], fun i v t ev et => ?_⟩
  rw [List.getElem?_map] at ev
  cases e : as[i]? with
  | none => rw [e] at ev; cases ev
  | some a =>
    rw [e] at ev
    cases ev
    exact ⟨a, rfl, h i a t e et⟩
theorem pe_listzip {X : Cx} {e1 e2 : Expr} {ta : TA} {p1 pos1 p2 pos2 : Pos} (hg1 : Gl X "list") (hm1 : X.mg "list" = none) (hg2 : Gl X "zip") (hm2 : X.mg "zip" = none) (hc : X.calm = true) (ha : PA X [e1, e2] ta)
    (hs : starEach [e1, e2] X.env = (false, eval e1 X.env) :: starEach [e2] X.env := by rfl) (hpl : (backTo pos2 (starEach [e2] X.env)).any (·.1) = false := by rfl)
    (he : starEach [.Call (.Name "zip" p2) [e1, e2] [] pos2] X.env = (false, eval (.Call (.Name "zip" p2) [e1, e2] [] pos2) X.env) :: starEach [] X.env := by rfl) :
    PE X (.Call (.Name "list" p1) [.Call (.Name "zip" p2) [e1, e2] [] pos2] [] pos1) (tListZip X.K ta) := by
  constructor
  intro pins s σ H Q I h
  refine Call_ (ld_blt I hg1 hm1 boot_list (PyProof.Rows.callWith_type1 (args_cons ?_ he) he))
  refine Call_ (ld_blt I hg2 hm2 PyProof.Rows.boot_zip (PyProof.Rows.callWith_type1 (thn (ha.run pos2 pins s σ H _ I h) fun us s1 hyp => ?_) hs hpl))
  obtain ⟨vs, H1, I1, r1, a, b, xs, ys, rfl, hqx, hqy, q⟩ := hyp
  cases r1 with
  | cons ra rr =>
  cases rr with
  | cons rb rr =>
  cases rr
  cases ra
  cases rb
  obtain ⟨its, rv, pa, za⟩ := I1.tuple hqx
  obtain ⟨its2, rv2, pb, zb⟩ := I1.tuple hqy
  have pT : s1.heap.IsTuple a its.toArray := pa
  have pT2 : s1.heap.IsTuple b its2.toArray := pb
  have la : a < s1.heap.objs.size := pa.lt
  have lb : b < s1.heap.objs.size := pb.lt
  refine RZ.call_zipT pT pT2 fun h' zp zi zo it1 it2 zsz k1 => args_nil ?_
  have I2 : Inv X pins σ H1 { s1 with heap := h' } := I1.kept (t' := s1.toks) k1
  have sz : h'.objs.size = s1.heap.objs.size + 5 := zsz
  have L : ZLow h'.objs.size (s1.heap.objs.size + 4) (s1.heap.objs.size + 2) (s1.heap.objs.size + 3) s1.heap.objs.size (s1.heap.objs.size + 1) a b := by
    refine ⟨PySem.W.ktu_apart s1.heap.objs.size a b la lb, ?_, ?_, ?_, ?_, ?_, ?_, ?_⟩ <;> rw [sz]
    · exact Nat.lt_succ_self (s1.heap.objs.size + 4)
    · exact (show (s1.heap.objs.size : Nat) + 2 < s1.heap.objs.size + 5 by omega)
    · exact (show (s1.heap.objs.size : Nat) + 3 < s1.heap.objs.size + 5 by omega)
    · exact (show (s1.heap.objs.size : Nat) < s1.heap.objs.size + 5 by omega)
    · exact (show (s1.heap.objs.size : Nat) + 1 < s1.heap.objs.size + 5 by omega)
    · exact Nat.lt_of_lt_of_le la (Nat.le_add_right _ _)
    · exact Nat.lt_of_lt_of_le lb (Nat.le_add_right _ _)
  have l1 := rv.length
  have l2 := rv2.length
  have zz : min its.toArray.size its2.toArray.size ≤ sizeLine := by rw [List.size_toArray, List.size_toArray]; omega
  refine zl_call (s := { s1 with heap := h' }) (A := X.A) (I.ok.hd hc) L zp ⟨.inl zp, zi, ⟨_, _, zo⟩, it1, it2, pT.at fun o e => k1 _ _ e, pT2.at fun o e => k1 _ _ e⟩ zz fun h2 acc nn as k2 e2 la2 g2 ac2 => ?_
  have dup : ∀ {j k : Nat} {c : Addr}, as[j]? = some c → as[k]? = some c → j = k := fun {j k c} ej ek => by
    obtain ⟨hj, ej⟩ := List.getElem?_eq_some_iff.mp ej
    obtain ⟨hk, ek⟩ := List.getElem?_eq_some_iff.mp ek
    have R := List.pairwise_iff_getElem.mp g2.rise
    rcases Nat.lt_trichotomy j k with z | z | z
    · have := R j k hj hk z; rw [ej, ek] at this; exact absurd this (Nat.lt_irrefl _)
    · exact z
    · have := R k j hk hj z; rw [ej, ek] at this; exact absurd this (Nat.lt_irrefl _)
  have ln : as.length = (xs.zip ys).length := by rw [la2, List.size_toArray, List.size_toArray, List.length_zip]; omega
  generalize eS : h'.objs.size = S at L e2 g2 sz ⊢
  have kk : ∀ b u, s1.heap.get? b = some u → h2.get? b = some u := fun b u e => by
    have lt : b < s1.heap.objs.size := Heap.lt_size e
    have le : ∀ n : Nat, b ≠ s1.heap.objs.size + n := fun n => Nat.ne_of_lt (Nat.lt_of_lt_of_le lt (Nat.le_add_right _ _))
    exact k2 b u ⟨le 4, le 3, le 0, le 1⟩ (k1 b u e)
  have hS1 : s1.heap.objs.size ≤ S := by rw [sz]; exact Nat.le_add_right _ _
  obtain ⟨f, f1, f2, f3⟩ : ∃ f : Addr → Option HO, f S = some (.lst (as.map V.ref)) ∧ (∀ (j : Nat) (c : Addr) (p : V × V), as[j]? = some c → (xs.zip ys)[j]? = some p → f c = some (.tup [p.1, p.2])) ∧
      ∀ c o, f c = some o → (c = S ∧ o = .lst (as.map V.ref)) ∨ ∃ (j : Nat) (p : V × V), as[j]? = some c ∧ (xs.zip ys)[j]? = some p ∧ o = .tup [p.1, p.2] := by
    classical
    refine ⟨fun c => if c = S then some (.lst (as.map V.ref)) else if h : ∃ (p : V × V) (j : Nat), as[j]? = some c ∧ (xs.zip ys)[j]? = some p then some (.tup [h.choose.1, h.choose.2]) else none, if_pos rfl, fun j c p ej ep => ?_, fun c o e => ?_⟩
    · have nS : c ≠ S := fun z => absurd (g2.above c (List.mem_of_getElem? ej)) (by rw [z]; exact Nat.lt_irrefl _)
      have ex : ∃ (p : V × V) (j : Nat), as[j]? = some c ∧ (xs.zip ys)[j]? = some p := ⟨p, j, ej, ep⟩
      show (if c = S then _ else _) = _
      rw [if_neg nS, dif_pos ex]
      obtain ⟨j2, e1, e2⟩ := ex.choose_spec
      rw [dup e1 ej, ep] at e2
      rw [← Option.some.inj e2]
    · dsimp only at e
      by_cases z : c = S
      · rw [if_pos z] at e
        exact .inl ⟨z, (Option.some.inj e).symm⟩
      · rw [if_neg z] at e
        by_cases ex : ∃ (p : V × V) (j : Nat), as[j]? = some c ∧ (xs.zip ys)[j]? = some p
        · rw [dif_pos ex] at e
          obtain ⟨j2, e1, e2⟩ := ex.choose_spec
          exact .inr ⟨j2, _, e1, e2, (Option.some.inj e).symm⟩
        · rw [dif_neg ex] at e
          cases e
  have hp : ∀ c o, f c = some o → s1.heap.objs.size ≤ c := fun c o e => by
    rcases f3 c o e with ⟨z, _⟩ | ⟨j, p, ej, _, _⟩
    · rw [z]; exact hS1
    · exact Nat.le_trans hS1 (Nat.le_of_lt (g2.above c (List.mem_of_getElem? ej)))
  have la3 : as.length ≤ sizeLine := by rw [la2]; exact zz
  have I3 : Inv X pins σ (ovr H1 f) { s1 with heap := h2, toks := s1.toks } := laid_all I1 kk hp fun c o e => by
    rcases f3 c o e with ⟨rfl, rfl⟩ | ⟨j, p, ej, ep, rfl⟩
    · refine ⟨by rw [List.length_map]; exact la3, acc.toList, nn, ?_, by rw [Array.toArray_toList]; exact e2⟩
      rw [ac2]
      exact vals_of_at (by rw [List.length_map, List.length_map]) fun i x u e1 e2 => by
        rw [List.getElem?_map] at e1 e2
        cases z : as[i]? with
        | none => rw [z] at e1; cases e1
        | some d => rw [z] at e1 e2; cases e1; cases e2; rfl
    · obtain ⟨x, y, ex, ey, pr⟩ := g2.pairs j c ej
      obtain ⟨e3, e4⟩ := List.getElem?_zip_eq_some.mp ep
      obtain ⟨u, hu, ru⟩ := rv.get e3
      obtain ⟨u2, hu2, ru2⟩ := rv2.get e4
      have q1 : u = x := Option.some.inj (hu.symm.trans (by simpa using ex))
      have q2 : u2 = y := Option.some.inj (hu2.symm.trans (by simpa using ey))
      subst q1 q2
      exact ⟨by show 2 ≤ sizeLine; decide, [u, u2], .cons ru (.cons ru2 .nil), _, pr, rfl, _, rfl⟩
  refine ⟨.ref S, ovr H1 f, I3, rfl, q _ S (as.map V.ref) (fun b o _ e => ?_) (I1.hok.fresh hS1) (ovr_new f1) (map_lat ln fun j c p ej ep => ovr_new (f2 j c p ej ep))⟩
  cases z : f b with
  | none => rw [ovr_old z]; exact e
  | some o' => rw [I1.hok.fresh (hp b o' z)] at e; cases e
end Lw

set_option maxRecDepth 100000
set_option maxHeartbeats 4000000
/-! matching: a stack of pairs and what is found -/
namespace Lw
open PySem PySem.Spec
open PyProof.Rows L2
/-- a replacement of all variables -/
def Tm.ins (θ : Int → Tm) (t : Tm) : Tm := t.sub fun i => some (θ i)
theorem Tm.ins_var (θ : Int → Tm) (i : Int) : (Tm.var i).ins θ = θ i := by unfold Tm.ins; rw [Tm.sub_var]; rfl
theorem Tm.ins_app (θ : Int → Tm) (n : Str) (ts : List Tm) : (Tm.app n ts).ins θ = .app n (ts.map (Tm.ins θ)) := by unfold Tm.ins; rw [Tm.sub_app, Tm.subs_map]
theorem Tm.sub_ins (θ : Int → Option Tm) (t : Tm) : t.sub θ = t.ins fun i => (θ i).getD (.var i) := by
  have key : ∀ (n : Nat) (t : Tm), t.size ≤ n → t.sub θ = t.ins fun i => (θ i).getD (.var i) := fun n => by
    induction n with
    | zero => intro t h; have := t.size_pos; omega
    | succ n ih =>
      intro t h
      cases t with
      | var i => rw [Tm.sub_var, Tm.ins_var]
      | app m ts =>
        rw [Tm.size_app] at h
        rw [Tm.sub_app, Tm.ins_app, Tm.subs_map]
        exact congrArg _ (List.map_congr_left fun u hu => ih u (by have := Tm.size_mem hu; omega))
  exact key _ t (Nat.le_refl _)
def Fits (θ : Int → Tm) (ws : List (Tm × Tm)) (fs : List (Int × Tm)) : Prop := (∀ p ∈ ws, p.1.ins θ = p.2) ∧ ∀ q ∈ fs, θ q.1 = q.2
structure MInv (pat t : Tm) (ws : List (Tm × Tm)) (fs : List (Int × Tm)) : Prop where
  sol : ∀ θ, pat.ins θ = t ↔ Fits θ ws fs
  keys : ∀ i, (i ∈ fs.map (·.1) ∨ ∃ p ∈ ws, i ∈ p.1.ints) ↔ i ∈ pat.ints
  nd : (fs.map (·.1)).Nodup
theorem MInv.start (pat t : Tm) : MInv pat t [(pat, t)] [] :=
  ⟨fun θ => ⟨fun h => ⟨fun p hp => by rw [List.mem_singleton.mp hp]; exact h, fun q hq => by cases hq⟩, fun h => h.1 (pat, t) (by simp)⟩, fun i => by simp, by simp⟩
section
variable {pat t : Tm} {ws : List (Tm × Tm)} {fs : List (Int × Tm)} {i : Int} {s : Tm}
theorem MInv.bind (h : MInv pat t (ws ++ [(.var i, s)]) fs) (hi : i ∉ fs.map (·.1)) : MInv pat t ws (fs ++ [(i, s)]) := by
  refine ⟨fun θ => ?_, fun j => ?_, ?_⟩
  · rw [h.sol]
    constructor
    · rintro ⟨h1, h2⟩
      refine ⟨fun p hp => h1 p (List.mem_append_left _ hp), fun q hq => ?_⟩
      rcases List.mem_append.mp hq with hq | hq
      · exact h2 q hq
      · rw [List.mem_singleton.mp hq]
        have := h1 (.var i, s) (by simp)
        rw [Tm.ins_var] at this
        exact this
    · rintro ⟨h1, h2⟩
      refine ⟨fun p hp => ?_, fun q hq => h2 q (List.mem_append_left _ hq)⟩
      rcases List.mem_append.mp hp with hp | hp
      · exact h1 p hp
      · rw [List.mem_singleton.mp hp, Tm.ins_var]
        exact h2 (i, s) (by simp)
  · rw [← h.keys j]
    constructor
    · rintro (a | ⟨p, hp, hj⟩)
      · rw [List.map_append, List.mem_append] at a
        rcases a with a | a
        · exact .inl a
        · exact .inr ⟨(.var i, s), by simp, by rw [Tm.ints_var]; simpa using a⟩
      · exact .inr ⟨p, List.mem_append_left _ hp, hj⟩
    · rintro (a | ⟨p, hp, hj⟩)
      · exact .inl (by rw [List.map_append]; exact List.mem_append_left _ a)
      · rcases List.mem_append.mp hp with hp | hp
        · exact .inr ⟨p, hp, hj⟩
        · rw [List.mem_singleton.mp hp, Tm.ints_var] at hj
          exact .inl (by rw [List.map_append, List.mem_singleton.mp hj]; simp)
  · rw [List.map_append, List.nodup_append]
    exact ⟨h.nd, by simp, fun a ha b hb z => hi (by rw [z, List.mem_singleton.mp hb] at ha; exact ha)⟩
theorem MInv.same (h : MInv pat t (ws ++ [(.var i, s)]) fs) (hi : (i, s) ∈ fs) : MInv pat t ws fs := by
  refine ⟨fun θ => ?_, fun j => ?_, h.nd⟩
  · rw [h.sol]
    refine ⟨fun ⟨h1, h2⟩ => ⟨fun p hp => h1 p (List.mem_append_left _ hp), h2⟩, fun ⟨h1, h2⟩ => ⟨fun p hp => ?_, h2⟩⟩
    rcases List.mem_append.mp hp with hp | hp
    · exact h1 p hp
    · rw [List.mem_singleton.mp hp, Tm.ins_var]
      exact h2 (i, s) hi
  · rw [← h.keys j]
    refine ⟨fun a => a.imp id fun ⟨p, hp, hj⟩ => ⟨p, List.mem_append_left _ hp, hj⟩, fun a => ?_⟩
    rcases a with a | ⟨p, hp, hj⟩
    · exact .inl a
    · rcases List.mem_append.mp hp with hp | hp
      · exact .inr ⟨p, hp, hj⟩
      · rw [List.mem_singleton.mp hp, Tm.ints_var] at hj
        exact .inl (by rw [List.mem_singleton.mp hj]; exact List.mem_map.mpr ⟨_, hi, rfl⟩)
theorem MInv.clash {u : Tm} (h : MInv pat t (ws ++ [(.var i, s)]) fs) (hi : (i, u) ∈ fs) (hu : u ≠ s) : ∀ θ, pat.ins θ ≠ t := fun θ e => by
  obtain ⟨h1, h2⟩ := (h.sol θ).mp e
  have a := h1 (.var i, s) (by simp)
  rw [Tm.ins_var] at a
  exact hu ((h2 (i, u) hi).symm.trans a)
theorem MInv.part {n : Str} {gs ss : List Tm} (h : MInv pat t (ws ++ [(.app n gs, .app n ss)]) fs) (hl : gs.length = ss.length) : MInv pat t (ws ++ gs.zip ss) fs := by
  have eqv : ∀ θ, (Tm.app n gs).ins θ = .app n ss ↔ ∀ p ∈ gs.zip ss, p.1.ins θ = p.2 := fun θ => by
    rw [Tm.ins_app, Tm.app.injEq]
    constructor
    · rintro ⟨_, e⟩ p hp
      obtain ⟨j, ej⟩ := List.mem_iff_getElem?.mp hp
      obtain ⟨e1, e2⟩ := List.getElem?_zip_eq_some.mp ej
      have := congrArg (fun l => l[j]?) e
      rw [List.getElem?_map, e1, e2] at this
      exact Option.some.inj this
    · intro e
      refine ⟨rfl, List.ext_getElem (by rw [List.length_map, hl]) fun j h1 h2 => ?_⟩
      rw [List.getElem_map]
      rw [List.length_map] at h1
      exact e (gs[j], ss[j]) (List.mem_iff_getElem?.mpr ⟨j, List.getElem?_zip_eq_some.mpr ⟨List.getElem?_eq_getElem h1, List.getElem?_eq_getElem h2⟩⟩)
  refine ⟨fun θ => ?_, fun j => ?_, h.nd⟩
  · rw [h.sol]
    constructor
    · rintro ⟨h1, h2⟩
      refine ⟨fun p hp => ?_, h2⟩
      rcases List.mem_append.mp hp with hp | hp
      · exact h1 p (List.mem_append_left _ hp)
      · exact (eqv θ).mp (h1 (.app n gs, .app n ss) (by simp)) p hp
    · rintro ⟨h1, h2⟩
      refine ⟨fun p hp => ?_, h2⟩
      rcases List.mem_append.mp hp with hp | hp
      · exact h1 p (List.mem_append_left _ hp)
      · rw [List.mem_singleton.mp hp]
        exact (eqv θ).mpr fun q hq => h1 q (List.mem_append_right _ hq)
  · rw [← h.keys j]
    have vs : (∃ p ∈ gs.zip ss, j ∈ p.1.ints) ↔ j ∈ (Tm.app n gs).ints := by
      rw [Tm.ints_app]
      unfold Tm.intss
      rw [List.mem_filterMap]
      constructor
      · rintro ⟨p, hp, hj⟩
        obtain ⟨u, hu, e⟩ := List.mem_filterMap.mp hj
        exact ⟨u, Tm.mem_occs.mpr ⟨p.1, (List.of_mem_zip (show (p.1, p.2) ∈ gs.zip ss from hp)).1, hu⟩, e⟩
      · rintro ⟨u, hu, e⟩
        obtain ⟨g, hg, hu⟩ := Tm.mem_occs.mp hu
        obtain ⟨k, hk⟩ := List.mem_iff_getElem?.mp hg
        have hk2 : k < ss.length := by rw [← hl]; exact (List.getElem?_eq_some_iff.mp hk).1
        exact ⟨(g, ss[k]), List.mem_iff_getElem?.mpr ⟨k, List.getElem?_zip_eq_some.mpr ⟨hk, List.getElem?_eq_getElem hk2⟩⟩, List.mem_filterMap.mpr ⟨u, hu, e⟩⟩
    constructor
    · rintro (a | ⟨p, hp, hj⟩)
      · exact .inl a
      · rcases List.mem_append.mp hp with hp | hp
        · exact .inr ⟨p, List.mem_append_left _ hp, hj⟩
        · exact .inr ⟨(.app n gs, .app n ss), by simp, vs.mp ⟨p, hp, hj⟩⟩
    · rintro (a | ⟨p, hp, hj⟩)
      · exact .inl a
      · rcases List.mem_append.mp hp with hp | hp
        · exact .inr ⟨p, List.mem_append_left _ hp, hj⟩
        · rw [List.mem_singleton.mp hp] at hj
          obtain ⟨q, hq, hj⟩ := vs.mpr hj
          exact .inr ⟨q, List.mem_append_right _ hq, hj⟩
theorem MInv.off {n : Str} {gs : List Tm} (h : MInv pat t (ws ++ [(.app n gs, s)]) fs) (no : ∀ ss, s = .app n ss → ss.length ≠ gs.length) : ∀ θ, pat.ins θ ≠ t := fun θ e => by
  have a := ((h.sol θ).mp e).1 (.app n gs, s) (by simp)
  rw [Tm.ins_app] at a
  exact no _ a.symm (by rw [List.length_map])
theorem MInv.fin (h : MInv pat t [] fs) : (∃ θ, pat.ins θ = t) ∧ (∀ θ, pat.ins θ = t → ∀ q ∈ fs, θ q.1 = q.2) ∧ ∀ i, i ∈ fs.map (·.1) ↔ i ∈ pat.ints := by
  refine ⟨⟨fun i => (thOf fs i).getD (.var i), (h.sol _).mpr ⟨fun p hp => (by cases hp), fun q hq => ?_⟩⟩, fun θ e => ((h.sol θ).mp e).2, fun i => ?_⟩
  · show (thOf fs q.1).getD _ = q.2
    rw [thOf_mem h.nd (show (q.1, q.2) ∈ fs from hq)]
    rfl
  · rw [← h.keys i]
    simp
end
/-! ### on the heap -/
def PrTm (H : Hp) (v : V) (p : Tm × Tm) : Prop := ∃ a x y, v = .ref a ∧ H a = some (.tup [x, y]) ∧ At H x p.1 ∧ At H y p.2
theorem PrTm.keepT {H H' : Hp} {v : V} {p : Tm × Tm} (k : KeepT H H') (h : PrTm H v p) : PrTm H' v p := let ⟨a, x, y, e, q, a1, a2⟩ := h; ⟨a, x, y, e, k _ _ q, a1.keep k, a2.keep k⟩
theorem zip_lat {H : Hp} {zs xs ys : List V} {gs ss : List Tm} (h : Lat PairAt H zs (xs.zip ys)) (a : Ats H xs gs) (b : Ats H ys ss) : Lat PrTm H zs (gs.zip ss) := by
  refine ⟨by rw [h.len, List.length_zip, List.length_zip, a.len, b.len], fun i v p ev ep => ?_⟩
  obtain ⟨e1, e2⟩ := List.getElem?_zip_eq_some.mp ep
  obtain ⟨x, ex, ax⟩ := a.get' e1
  obtain ⟨y, ey, ay⟩ := b.get' e2
  obtain ⟨r, er, h2⟩ := h.at' i v (x, y) ev (List.getElem?_zip_eq_some.mpr ⟨ex, ey⟩)
  exact ⟨r, x, y, er, h2, ax, ay⟩
theorem Lat.app {α : Type} {R : Hp → V → α → Prop} {H : Hp} {vs ws : List V} {ts us : List α} (a : Lat R H vs ts) (b : Lat R H ws us) : Lat R H (vs ++ ws) (ts ++ us) := by
  refine ⟨by rw [List.length_append, List.length_append, a.len, b.len], fun i v t ev et => ?_⟩
  by_cases c : i < vs.length
  · rw [List.getElem?_append_left c] at ev
    rw [List.getElem?_append_left (by rw [← a.len]; exact c)] at et
    exact a.at' i v t ev et
  · rw [List.getElem?_append_right (by omega)] at ev
    rw [List.getElem?_append_right (by rw [← a.len]; omega), ← a.len] at et
    exact b.at' _ v t ev et
/-- the last one apart -/
theorem Lat.last {α : Type} {R : Hp → V → α → Prop} {H : Hp} {ws : List V} {ts : List α} (h : Lat R H ws ts) (hn : ws ≠ []) : ∃ ys y us u, ws = ys ++ [y] ∧ ts = us ++ [u] ∧ Lat R H ys us ∧ R H y u := by
  have ht : ts ≠ [] := fun z => hn (by have := h.len; rw [z] at this; exact List.length_eq_zero_iff.mp this)
  refine ⟨ws.dropLast, ws.getLast hn, ts.dropLast, ts.getLast ht, (List.dropLast_concat_getLast hn).symm, (List.dropLast_concat_getLast ht).symm, ⟨by rw [List.length_dropLast, List.length_dropLast, h.len], fun i v t ev et => ?_⟩, ?_⟩
  · rw [List.dropLast_eq_take, List.getElem?_take] at ev et
    split at ev
    · split at et
      · exact h.at' i v t ev et
      · cases et
    · cases ev
  · refine h.at' (ws.length - 1) _ _ ?_ ?_
    · rw [List.getLast_eq_getElem hn, List.getElem?_eq_getElem]
    · rw [List.getLast_eq_getElem ht, h.len, List.getElem?_eq_getElem]
theorem PairTm.nil' {H : Hp} : PairTm H [] [] := ⟨rfl, fun j kv p e => by simp at e⟩
theorem PairTm.snoc {H : Hp} {kvs : List (Key × V)} {fs : List (Int × Tm)} {i : Int} {v : V} {u : Tm} (h : PairTm H kvs fs) (a : At H v u) : PairTm H (kvs ++ [(Sum.inl i, v)]) (fs ++ [(i, u)]) := by
  refine ⟨by rw [List.length_append, List.length_append, h.1]; rfl, fun j kv p e1 e2 => ?_⟩
  by_cases c : j < kvs.length
  · rw [List.getElem?_append_left c] at e1
    rw [List.getElem?_append_left (by rw [← h.1]; exact c)] at e2
    exact h.2 j kv p e1 e2
  · rw [List.getElem?_append_right (by omega)] at e1
    rw [List.getElem?_append_right (by rw [← h.1]; omega), ← h.1] at e2
    cases d : j - kvs.length with
    | zero => rw [d] at e1 e2; cases e1; cases e2; exact ⟨rfl, a⟩
    | succ n => rw [d] at e1; cases e1
theorem PairTm.val {H : Hp} {i : Int} : ∀ {kvs : List (Key × V)} {fs : List (Int × Tm)}, PairTm H kvs fs → (valV kvs (Sum.inl i) = none ∧ i ∉ fs.map (·.1)) ∨ ∃ v u, valV kvs (Sum.inl i) = some v ∧ (i, u) ∈ fs ∧ At H v u
  | [], [], _ => .inl ⟨rfl, by simp⟩
  | [], _ :: _, h => nomatch h.1
  | _ :: _, [], h => nomatch h.1
  | kv :: kvs, q :: fs, h => by
    obtain ⟨ek, ea⟩ := h.2 0 kv q rfl rfl
    have r : PairTm H kvs fs := ⟨Nat.succ.inj h.1, fun j a b e1 e2 => h.2 (j + 1) a b e1 e2⟩
    obtain ⟨kk, kv2⟩ := kv
    obtain ⟨qi, qt⟩ := q
    have ek : kk = Sum.inl qi := ek
    subst ek
    by_cases c : qi = i
    · subst c
      exact .inr ⟨kv2, qt, by unfold valV; rw [List.find?_cons_of_pos (by simp)]; rfl, by simp, ea⟩
    · have e : valV ((Sum.inl qi, kv2) :: kvs) (Sum.inl i) = valV kvs (Sum.inl i) := by
        unfold valV
        rw [List.find?_cons_of_neg (by simpa using c)]
      rw [e]
      rcases PairTm.val (i := i) r with ⟨h1, h2⟩ | ⟨v, u, h1, h2, h3⟩
      · exact .inl ⟨h1, by rw [List.map_cons, List.mem_cons]; rintro (z | z); exact c z.symm; exact h2 z⟩
      · exact .inr ⟨v, u, h1, List.mem_cons_of_mem _ h2, h3⟩
theorem PairTm.keys {H : Hp} {kvs : List (Key × V)} {fs : List (Int × Tm)} (h : PairTm H kvs fs) : (kvs.map fun kv => kV kv.1) = (fs.map (·.1)).map V.int := by
  refine List.ext_getElem? fun j => ?_
  rw [List.getElem?_map, List.getElem?_map, List.getElem?_map]
  cases e1 : kvs[j]? with
  | none =>
    have : fs[j]? = none := List.getElem?_eq_none (by rw [← h.1]; exact List.getElem?_eq_none_iff.mp e1)
    rw [this]; rfl
  | some kv =>
    have hj := (List.getElem?_eq_some_iff.mp e1).1
    have e2 : fs[j]? = some (fs[j]'(by rw [← h.1]; exact hj)) := List.getElem?_eq_getElem _
    rw [e2]
    obtain ⟨ek, _⟩ := h.2 j kv _ e1 e2
    show some (kV kv.1) = some (V.int _)
    rw [ek]
    rfl
def szs (ws : List (Tm × Tm)) : Nat := Tm.sizes (ws.map (·.1))
theorem szs_append (a b : List (Tm × Tm)) : szs (a ++ b) = szs a + szs b := by unfold szs; rw [List.map_append, Tm.sizes_append]
theorem szs_one (p : Tm × Tm) : szs [p] = p.1.size := by
  unfold szs
  rw [List.map_cons, List.map_nil, Tm.sizes_cons, Tm.sizes_nil]
  omega
theorem szs_zip {gs ss : List Tm} (h : gs.length = ss.length) : szs (gs.zip ss) = Tm.sizes gs := by
  unfold szs
  rw [show (gs.zip ss).map (·.1) = gs from List.map_fst_zip (by omega)]
theorem len_szs (ws : List (Tm × Tm)) : ws.length ≤ szs ws := by
  have := Tm.length_le_sizes (ws.map (·.1))
  rw [List.length_map] at this
  exact this
def spMatch (P : Addr) : Sp := fun vs H Q _ => ∃ (v w : V) (p t : Tm), vs = [v, w] ∧ At H v p ∧ At H w t ∧ p.size ≤ 100000 ∧ t.Nice ∧ t.depth ≤ 61 ∧ GxR.TabG H P ∧
  (((∀ θ, p.ins θ ≠ t) ∧ ∀ H', Kp [P] H H' → GxR.TabG H' P → Q .non H') ∨
  ∃ θ, p.ins θ = t ∧ ∀ (H' : Hp) (r : Addr) (ws : List V) (ns : List Int), Kp [P] H H' → GxR.TabG H' P → H' r = some (.tup ws) → PrV H' ws (ns.map fun i => (i, θ i)) → ns.Nodup → ns.Pairwise (· ≤ ·) → (∀ i, i ∈ ns ↔ i ∈ p.ints) → Q (.ref r) H')
end Lw

set_option maxRecDepth 100000
set_option maxHeartbeats 4000000
/-! steps of matching -/
namespace Lw
open PySem PySem.Spec
open PyProof.Rows L2
theorem Tm.eqv_dec {t u : Tm} (h : t.Nice) : PyData.eqv t.dat u.dat = decide (t = u) := by
  rw [Bool.eq_iff_iff, decide_eq_true_iff]
  exact ⟨Tm.eqv_eq t u, fun e => by rw [← e]; exact PySem.SeqAt.eqv_refl _ (Tm.dat_can t h)⟩
theorem d_neT {K : PySem.W.Frag} {H : Hp} {Q : VK} {x y : V} {t u : Tm} (hx : At H x t) (hy : At H y u) (nt : t.Nice) (nu : u.Nice) (dt : t.depth ≤ 61) (du : u.depth ≤ 61) (q : Q (.bl (!decide (t = u))) H) : rNeD K x y H Q :=
  ⟨t.dat, u.dat, hx.dp, hy.dp, shaped_of (Tm.dat_can t nt) (by have := Tm.dat_dep t; omega), shaped_of (Tm.dat_can u nu) (by have := Tm.dat_dep u; omega), by rw [Tm.eqv_dec nt]; exact q⟩
theorem d_extL {H : Hp} {Q : VK} {a b : Addr} {xs zs : List V} (h : H a = some (.lst xs)) (hb : H b = some (.lst zs)) (hz : xs.length + zs.length ≤ 1000000) (q : Q .non (upd H a (.lst (xs ++ zs)))) : rExtend (.ref a) [.ref b] H Q := ⟨a, b, xs, zs, rfl, rfl, h, hb, smallN hz, q⟩
theorem d_listzip {K : PySem.W.Frag} {ta : TA} {σ : L2.St} {H : Hp} {Q : VK} (q : ta σ H fun vs H1 => ∃ a b xs ys, vs = [.ref a, .ref b] ∧ SqT K H1 a xs ∧ SqT K H1 b ys ∧ ∀ H' p ws, Kp [] H1 H' → H1 p = none → H' p = some (.lst ws) → Lat PairAt H' ws (xs.zip ys) → Q (.ref p) H') : tListZip K ta σ H Q := q
/-- a generator expression over a list of ints that hands back pairs (i, what θ says) -/
theorem gx_found {K : PySem.W.Frag} {r P : Addr} {ns : List Int} {θ : Int → Tm} {ws : List (Option V)} {B : Hp} {te : TE} {cont : List V → Hp → Prop} (er : B r = some (.lst (ns.map V.int))) (hn : ns.length ≤ 100000) (tb : GxR.TabG B P)
    (call : ∀ i H' (Q : VK), i ∈ ns → Kp [P] B H' → GxR.TabG H' P → (∀ H'' b v, Kp [] H' H'' → H'' b = some (.tup [.int i, v]) → At H'' v (θ i) → Q (.ref b) H'') → te (some (.int i) :: ws) H' Q)
    (hd : ∀ H' vs, Kp [P] B H' → GxR.TabG H' P → PrV H' vs (ns.map fun i => (i, θ i)) → vs.length ≤ 100000 → cont vs H') : GxB (Itl K r) te ws B cont := by
  have nr : r ≠ P := fun z => by obtain ⟨ps, e, _⟩ := tb; rw [← z, er] at e; cases e
  refine ⟨fun m j ys H' => m + j = ns.length ∧ Kp [P] B H' ∧ GxR.TabG H' P ∧ PrV H' ys ((ns.take j).map fun i => (i, θ i)), ⟨ns.length, rfl, Kp.refl _ _, tb, .nil⟩, fun m j ys H' ⟨hm, kB, tH, ay⟩ => ?_⟩
  have eH := kB.one nr er
  by_cases hj : j < ns.length
  · have et : ns[j]? = some ns[j] := List.getElem?_eq_getElem hj
    have l1 := ay.len
    rw [List.length_map, List.length_take] at l1
    refine .inr ⟨⟨ns.map V.int, .int ns[j], sqL eH, by rw [List.getElem?_map, et]; rfl⟩, smallL (by omega), fun ys' H2 => m = (m - 1) + 1 ∧ (m - 1) + (j + 1) = ns.length ∧ Kp [P] B H2 ∧ GxR.TabG H2 P ∧ PrV H2 ys' ((ns.take (j + 1)).map fun i => (i, θ i)), fun ys' H2 ⟨h0, h⟩ => ⟨m - 1, by omega, h⟩, fun y H2 hy => ?_⟩
    obtain ⟨rfl, hy⟩ := hy
    have hv := hy _ (sqL eH)
    rw [List.getElem?_map, et] at hv
    cases hv
    refine call ns[j] H2 _ (List.getElem_mem hj) kB tH fun H3 b v k3 eb av => ?_
    refine ⟨by omega, by omega, kB.trans (k3.mono (by simp)), tH.keep0 k3, ?_⟩
    rw [take_succ_of et, List.map_append]
    exact (PrV.keep (k3.keepT (by simp)) ay).app (.cons ⟨b, v, rfl, eb, av⟩ .nil)
  · have hj2 : j = ns.length := by omega
    subst hj2
    rw [List.take_length] at ay
    have := ay.len
    rw [List.length_map] at this
    exact .inl ⟨⟨ns.map V.int, sqL eH, by rw [List.length_map]; exact Nat.le_refl _⟩, hd H' ys kB tH ay (by omega)⟩
theorem d_sortedDk {H : Hp} {Q : VK} {p : Addr} {kvs : List (Key × V)} {ns : List Int} (h : H p = some (.dK kvs)) (e : (kvs.map fun kv => kV kv.1) = ns.map V.int) (q : ∀ (ns' : List Int) (q : Addr), ns'.Perm ns → ns'.Pairwise (· ≤ ·) → H q = none → Q (.ref q) (upd H q (.lst (ns'.map V.int)))) : rSortedDk [.ref p] H Q := ⟨p, kvs, ns, rfl, h, e, q⟩
theorem LatTm_gen {H H' : Hp} {ws : List V} {ts : List (Tm × Tm)} {l : List Addr} (h : Lat PrTm H ws ts) (k : Kp l H H') (hl : ∀ a ∈ l, ∀ xs, H a ≠ some (.tup xs)) : Lat PrTm H' ws ts := h.kp PrTm.keepT k hl
end Lw

set_option maxRecDepth 100000
set_option maxHeartbeats 4000000
/-! drawn pairs; what two tables and a tape leave standing -/
namespace Lw
open PySem PySem.Spec
open PyProof.Rows L2
def four : List Int := [5, 0, 65535, 2]
def vl4 (f : Int) (i : Nat) : Int := four.getD ((f + (0 + (i : Int))).fmod 4).toNat 0
theorem mod4 (a : Int) : 0 ≤ a.fmod 4 ∧ a.fmod 4 < 4 := by
  rw [Int.fmod_eq_emod_of_nonneg _ (by decide)]
  exact ⟨Int.emod_nonneg _ (by decide), Int.emod_lt_of_pos _ (by decide)⟩
theorem at4 {m : Int} (h0 : 0 ≤ m) (h1 : m < 4) : atI (four.map V.int) m = some (V.int (four.getD m.toNat 0)) ∧ four.getD m.toNat 0 ∈ four := by
  have hm : m = 0 ∨ m = 1 ∨ m = 2 ∨ m = 3 := by omega
  rcases hm with rfl | rfl | rfl | rfl
  · exact ⟨rfl, by decide⟩
  · exact ⟨rfl, by decide⟩
  · exact ⟨rfl, by decide⟩
  · exact ⟨rfl, by decide⟩
theorem vl4_in (f : Int) (i : Nat) : vl4 f i ∈ four := (at4 (mod4 _).1 (mod4 _).2).2
theorem vl4_nodup {f : Int} (h0 : 0 ≤ f) (h1 : f < 4) {n : Nat} (hn : n ≤ 4) : ((List.range n).map (vl4 f)).Nodup := by
  have key : ((List.range 4).map (vl4 f)).Nodup := by
    have hm : f = 0 ∨ f = 1 ∨ f = 2 ∨ f = 3 := by omega
    rcases hm with rfl | rfl | rfl | rfl <;> decide
  exact key.sublist ((List.range_sublist.mpr hn).map _)
def spPairs : Sp := fun vs H Q _ => ∃ (t sc sy va : Addr) (ns : List Int) (zs : List (Str × Int)), vs = [.ref t, .ref sy, .ref va] ∧ TapeAt H t sc ns ∧ SymsAt H sy zs ∧ 1 ≤ zs.length ∧ zs.length ≤ 100000 ∧ H va = some (.lst (four.map V.int)) ∧
  ∀ H' p xs L, Kp [t] H H' → TapeAt H' t sc ns → H p = none → H' p = some (.lst xs) → PrV H' xs L → (L.map (·.1)).Nodup → L.length ≤ 4 → (∀ q ∈ L, q.1 ∈ four ∧ ∃ d, d ≤ 1 ∧ Gen zs (four.map Tm.var) d q.2) → Q (.ref p) H'
/-! ### a heap that comes from B: the tape and two tables alone have changed -/
theorem tab_ne {H : Hp} {P a : Addr} {o : HO} (g : GxR.TabG H P) (e : H a = some o) (h : ∀ ps, o ≠ .tbl ps) : a ≠ P := fun z => by
  obtain ⟨ps, e2, _⟩ := g
  rw [← z, e] at e2
  cases e2
  exact h _ rfl
theorem tape_ne {H : Hp} {t sc : Addr} {ns : List Int} {P : Addr} (T : TapeAt H t sc ns) (g : GxR.TabG H P) : t ≠ P ∧ sc ≠ P := by
  obtain ⟨⟨_, _, _, _, e⟩, e2, _⟩ := T
  exact ⟨tab_ne g e (fun ps z => by cases z), tab_ne g e2 (fun ps z => by cases z)⟩
theorem tab_fresh {H : Hp} {P p : Addr} (g : GxR.TabG H P) (hp : H p = none) : P ≠ p := by
  obtain ⟨_, e, _⟩ := g
  exact ne_of_none e hp
theorem GxR_one {H H' : Hp} {l P : Addr} (g : GxR.TabG H P) (k : Kp [l] H H') (h : P ≠ l) : GxR.TabG H' P := by
  obtain ⟨ps, e, h2⟩ := g
  exact ⟨ps, k.one h e, h2⟩
/-- the tape and two tables -/
structure Tp (H : Hp) (t sc : Addr) (ns : List Int) (P1 P2 : Addr) : Prop where
  tp : TapeAt H t sc ns
  g1 : GxR.TabG H P1
  g2 : GxR.TabG H P2
  ne : P1 ≠ P2
structure Wd (B H : Hp) (t sc : Addr) (ns : List Int) (P1 P2 : Addr) : Prop where
  k : Kp [t, P1, P2] B H
  n : Tp H t sc ns P1 P2
  b : Tp B t sc ns P1 P2
section
variable {B H H' : Hp} {t sc : Addr} {ns : List Int} {P1 P2 : Addr}
theorem Wd.start (b : Tp B t sc ns P1 P2) : Wd B B t sc ns P1 P2 := ⟨Kp.refl _ _, b, b⟩
theorem Wd.nt (w : Wd B H t sc ns P1 P2) : ∀ b ∈ [t, P1, P2], ∀ ys, B b ≠ some (.tup ys) := fun b hb ys => by
  rcases List.mem_cons.mp hb with z | hb
  · rw [z]; exact w.b.tp.not_tup ys
  rcases List.mem_cons.mp hb with z | hb
  · rw [z]; exact no_tupT w.b.g1 P1 (by simp) ys
  · rw [List.mem_singleton.mp hb]; exact no_tupT w.b.g2 P2 (by simp) ys
theorem Wd.re (w : Wd B H t sc ns P1 P2) : Wd H H t sc ns P1 P2 := Wd.start w.n
theorem Tp.nil (w : Tp H t sc ns P1 P2) (k : Kp [] H H') : Tp H' t sc ns P1 P2 := ⟨w.tp.nil k, w.g1.keep0 k, w.g2.keep0 k, w.ne⟩
theorem Wd.nil (w : Wd B H t sc ns P1 P2) (k : Kp [] H H') : Wd B H' t sc ns P1 P2 := ⟨w.k.trans (k.mono (by simp)), w.n.nil k, w.b⟩
theorem Wd.tape (w : Wd B H t sc ns P1 P2) (k : Kp [t] H H') (T : TapeAt H' t sc ns) : Wd B H' t sc ns P1 P2 :=
  ⟨w.k.trans (k.mono (by simp)), ⟨T, GxR_one w.n.g1 k (tape_ne w.n.tp w.n.g1).1.symm, GxR_one w.n.g2 k (tape_ne w.n.tp w.n.g2).1.symm, w.n.ne⟩, w.b⟩
theorem Wd.t1 (w : Wd B H t sc ns P1 P2) (k : Kp [P1] H H') (g : GxR.TabG H' P1) : Wd B H' t sc ns P1 P2 :=
  ⟨w.k.trans (k.mono (by simp)), ⟨w.n.tp.keep k (one_not' (tape_ne w.n.tp w.n.g1).1) (one_not' (tape_ne w.n.tp w.n.g1).2), g, GxR_one w.n.g2 k w.n.ne.symm, w.n.ne⟩, w.b⟩
theorem Wd.t2 (w : Wd B H t sc ns P1 P2) (k : Kp [P2] H H') (g : GxR.TabG H' P2) : Wd B H' t sc ns P1 P2 :=
  ⟨w.k.trans (k.mono (by simp)), ⟨w.n.tp.keep k (one_not' (tape_ne w.n.tp w.n.g2).1) (one_not' (tape_ne w.n.tp w.n.g2).2), GxR_one w.n.g1 k w.n.ne, g, w.n.ne⟩, w.b⟩
/-- an object that B did not have is written -/
theorem Wd.put (w : Wd B H t sc ns P1 P2) {p : Addr} {o : HO} (hp : B p = none) : Wd B (upd H p o) t sc ns P1 P2 := by
  have kp : Kp [p] H (upd H p o) := Kp.put (by simp)
  refine ⟨fun b u hb e => ?_, ⟨w.n.tp.keep kp (one_not' (w.b.tp.t_some hp)) (one_not' (w.b.tp.s_some hp)), GxR_one w.n.g1 kp (tab_fresh w.b.g1 hp), GxR_one w.n.g2 kp (tab_fresh w.b.g2 hp), w.n.ne⟩, w.b⟩
  rw [upd_ne (ne_of_none e hp)]
  exact w.k b u hb e
theorem Wd.kT (w : Wd B H t sc ns P1 P2) : KeepT B H := w.k.keepT w.nt
theorem Wd.at' (w : Wd B H t sc ns P1 P2) {v : V} {tm : Tm} (a : At B v tm) : At H v tm := a.keep w.kT
theorem Wd.prv (w : Wd B H t sc ns P1 P2) {xs : List V} {L : List (Int × Tm)} (a : PrV B xs L) : PrV H xs L := PrV.keep w.kT a
/-- an object of B that is neither the tape nor a table -/
theorem Wd.cell (w : Wd B H t sc ns P1 P2) {a : Addr} {o : HO} (e : B a = some o) (ht : a ≠ t) (ho : ∀ ps, o ≠ .tbl ps) : H a = some o :=
  w.k _ _ (by simp [ht, tab_ne w.b.g1 e ho, tab_ne w.b.g2 e ho]) e
theorem Wd.lst (w : Wd B H t sc ns P1 P2) {a : Addr} {xs : List V} (e : B a = some (.lst xs)) (ht : a ≠ t) : H a = some (.lst xs) := w.cell e ht fun ps z => by cases z
theorem Wd.dk (w : Wd B H t sc ns P1 P2) {a : Addr} {kvs : List (Key × V)} (e : B a = some (.dK kvs)) : H a = some (.dK kvs) := w.cell e (fun z => by
  obtain ⟨⟨_, _, _, _, e2⟩, _, _⟩ := w.b.tp
  rw [z, e2] at e
  cases e) fun ps z => by cases z
theorem Wd.free (w : Wd B H t sc ns P1 P2) {p : Addr} (hp : H p = none) : B p = none := by
  cases e : B p with
  | none => rfl
  | some o =>
    have n1 := w.n.tp.t_some hp
    have n2 := tab_fresh w.n.g1 hp
    have n3 := tab_fresh w.n.g2 hp
    rw [w.k p o (by simp [n1.symm, n2.symm, n3.symm]) e] at hp
    cases hp
end
end Lw

set_option maxRecDepth 100000
set_option maxHeartbeats 4000000
/-! one replacement after another; pairs compared -/
namespace Lw
open PySem PySem.Spec
open PyProof.Rows L2
theorem Tm.sub_sub {a b c : Int → Option Tm} (h : ∀ i, ((a i).getD (.var i)).sub b = (c i).getD (.var i)) (t : Tm) : (t.sub a).sub b = t.sub c := by
  have key : ∀ (n : Nat) (t : Tm), t.size ≤ n → (t.sub a).sub b = t.sub c := fun n => by
    induction n with
    | zero => intro t h; have := t.size_pos; omega
    | succ n ih =>
      intro t hs
      cases t with
      | var i => rw [Tm.sub_var, Tm.sub_var]; exact h i
      | app m ts =>
        rw [Tm.size_app] at hs
        rw [Tm.sub_app, Tm.sub_app, Tm.sub_app, Tm.subs_map, Tm.subs_map, Tm.subs_map, List.map_map]
        exact congrArg _ (List.map_congr_left fun u hu => ih u (by have := Tm.size_mem hu; omega))
  exact key _ t (Nat.le_refl _)
/-- the pairs of the first replacement, changed by the second one, and those of the second one for further variables -/
def joinOf (L1 L2 : List (Int × Tm)) : List (Int × Tm) := L1.map (fun p => (p.1, p.2.sub (thOf L2))) ++ L2.filter fun p => decide (p.1 ∉ L1.map (·.1))
theorem join_keys {L1 L2 : List (Int × Tm)} (h1 : (L1.map (·.1)).Nodup) (h2 : (L2.map (·.1)).Nodup) : ((joinOf L1 L2).map (·.1)).Nodup := by
  unfold joinOf
  rw [List.map_append, List.map_map, show ((fun p : Int × Tm => p.1) ∘ fun p : Int × Tm => (p.1, p.2.sub (thOf L2))) = fun p => p.1 from rfl, List.nodup_append]
  refine ⟨h1, h2.sublist ((List.filter_sublist).map _), fun x hx y hy e => ?_⟩
  obtain ⟨p, hp, rfl⟩ := List.mem_map.mp hy
  have := (List.mem_filter.mp hp).2
  rw [decide_eq_true_iff] at this
  exact this (e ▸ hx)
theorem join_sub {L1 L2 : List (Int × Tm)} (h1 : (L1.map (·.1)).Nodup) (h2 : (L2.map (·.1)).Nodup) (t : Tm) : (t.sub (thOf L1)).sub (thOf L2) = t.sub (thOf (joinOf L1 L2)) := by
  refine Tm.sub_sub (fun i => ?_) t
  have hk := join_keys h1 h2
  by_cases c : i ∈ L1.map (·.1)
  · obtain ⟨p, hp, rfl⟩ := List.mem_map.mp c
    rw [thOf_mem h1 (show (p.1, p.2) ∈ L1 from hp), thOf_mem (i := p.1) (t := p.2.sub (thOf L2)) hk (List.mem_append_left _ (List.mem_map.mpr ⟨p, hp, rfl⟩))]
    rfl
  · rw [thOf_none L1 fun p hp z => c (List.mem_map.mpr ⟨p, hp, z⟩)]
    show (Tm.var i).sub (thOf L2) = _
    rw [Tm.sub_var]
    cases e : thOf L2 i with
    | some u =>
      rw [thOf_mem (i := i) (t := u) hk (List.mem_append_right _ (List.mem_filter.mpr ⟨thOf_in e, by simpa using c⟩))]
    | none =>
      rw [thOf_none (joinOf L1 L2) fun p hp z => ?_]
      rcases List.mem_append.mp hp with hp | hp
      · obtain ⟨q, hq, rfl⟩ := List.mem_map.mp hp
        exact c (List.mem_map.mpr ⟨q, hq, z⟩)
      · have := thOf_mem h2 (show (p.1, p.2) ∈ L2 from (List.mem_filter.mp hp).1)
        rw [z, e] at this
        cases this
theorem PrV.get {H : Hp} {xs : List V} {L : List (Int × Tm)} (h : PrV H xs L) {i : Nat} {x : V} (e : xs[i]? = some x) : ∃ p, L[i]? = some p ∧ PrR H x p := by
  induction h generalizing i with
  | nil => simp at e
  | cons a r ih =>
    cases i with
    | zero => cases e; exact ⟨_, rfl, a⟩
    | succ i => exact ih (by simpa using e)
theorem PrV.one {H : Hp} {x : V} {p : Int × Tm} (h : PrR H x p) : PrV H [x] [p] := .cons h .nil
def prD (p : Int × Tm) : PyData := .tuple [.int p.1, p.2.dat]
theorem PrV.dps {K : PySem.W.Frag} {H : Hp} : ∀ {xs : List V} {L : List (Int × Tm)}, PrV H xs L → DpAll K H xs (L.map prD)
  | _, _, .nil => .nil
  | _, _, .cons ⟨a, v, e, ea, av⟩ r => .cons (by rw [e]; exact .tup (sqT ea) (.cons (.int _) (.cons av.dp .nil))) (PrV.dps r)
theorem d_alikeP {K : PySem.W.Frag} {H : Hp} {Q : VK} {E : XK} {a b : Addr} {xs ys : List V} {L : List (Int × Tm)} (e1 : H a = some (.tup xs)) (e2 : H b = some (.tup ys)) (h1 : PrV H xs L) (h2 : PrV H ys L)
    (hk : ∀ p ∈ L, 0 ≤ p.1 ∧ p.1 < 1000000000000 ∧ p.2.Nice ∧ p.2.depth ≤ 50 ∧ p.2.size ≤ 500) (hl : L.length ≤ 16) (q : ∀ H', Kp [] H H' → Q (.bl true) H') : spAlikeD K [.ref a, .ref b] H Q E := by
  refine ⟨_, _, .tuple (L.map prD), rfl, dp_tup e1 h1.dps, dp_tup e2 h2.dps, (Gd.tup (b := 52) (w := 2 * 21000 + 1) (b' := 53) (w' := 16 * (2 * 21000 + 1) + 1) (fun d hd => ?_) (by decide) (by rw [List.length_map]; omega)).good (by decide) (by decide), .inr ⟨⟨_, _, rfl, e1⟩, ⟨_, _, rfl, e2⟩⟩, q⟩
  obtain ⟨p, hp, rfl⟩ := List.mem_map.mp hd
  obtain ⟨k0, k1, k2, k3, k4⟩ := hk p hp
  refine Gd.tup (b := 51) (w := 21000) (fun d hd => ?_) (by decide) (by show 2 * 21000 + 1 ≤ 2 * 21000 + 1; decide)
  rcases List.mem_cons.mp hd with z | hd
  · rw [z]; exact (Gd.int k0 k1).mono (by decide) (by decide)
  · rw [List.mem_singleton.mp hd]
    exact (Gd.tm k2 (show p.2.depth ≤ 51 by omega) k4).mono (Nat.le_refl _) (by decide)
theorem adds_nodup {α : Type} [DecidableEq α] : ∀ (xs acc : List α), acc.Nodup → (adds acc xs).Nodup
  | [], acc, h => h
  | x :: xs, acc, h => by
    rw [adds_cons]
    refine adds_nodup xs _ ?_
    by_cases c : x ∈ acc
    · rw [addN_in c]; exact h
    · rw [addN_not c, List.nodup_append]
      exact ⟨h, by simp, fun a ha b hb z => c (by rw [List.mem_singleton.mp hb] at z; rw [← z]; exact ha)⟩
/-- sorted, each once, the same members: the same list -/
theorem sorted_eq {a b : List Int} (ha : a.Pairwise (· ≤ ·)) (hb : b.Pairwise (· ≤ ·)) (na : a.Nodup) (nb : b.Nodup) (h : ∀ i, i ∈ a ↔ i ∈ b) : a = b :=
  List.Perm.eq_of_pairwise (fun x y _ _ h1 h2 => Int.le_antisymm h1 h2) ha hb ((List.perm_ext_iff_of_nodup na nb).mpr h)
section
variable {σ : L2.St} {H : Hp} {Q : VK} {td ty : TE}
theorem d_dnotin (q : ty σ H fun y H1 => td σ H1 fun x H2 => ∃ a o, x = .ref a ∧ DGet H2 a y o ∧ Q (.bl (!o.isSome)) H2) : tDNotIn ty td σ H Q := q
end
theorem tbl_some {H : Hp} {kvs : List (Key × V)} {L : List (Int × Tm)} (h : TblAt H kvs (thOf L)) (hn : (L.map (·.1)).Nodup) (i : Int) : (valV kvs (Sum.inl i)).isSome = decide (i ∈ L.map (·.1)) := by
  rcases h i with ⟨h1, h2⟩ | ⟨u, t, h1, h2, _⟩
  · rw [h1, Option.isSome_none]
    refine (decide_eq_false fun z => ?_).symm
    obtain ⟨p, hp, rfl⟩ := List.mem_map.mp z
    rw [thOf_mem hn (show (p.1, p.2) ∈ L from hp)] at h2
    cases h2
  · rw [h1, Option.isSome_some]
    exact (decide_eq_true (List.mem_map.mpr ⟨_, thOf_in h2, rfl⟩)).symm
theorem filter_take_succ {L : List (Int × Tm)} {j : Nat} {p : Int × Tm} {f : Int × Tm → Bool} (h : L[j]? = some p) : (L.take (j + 1)).filter f = (L.take j).filter f ++ if f p = true then [p] else [] := by
  rw [take_succ_of h, List.filter_append]
  congr 1
  cases e : f p <;> simp [e]
theorem c_tupFK {X : Cx} {K : PySem.W.Frag} (h : X.K = K) : CallR X (.type "tuple") (rTupF K) := h ▸ c_tupF
end Lw

set_option maxRecDepth 100000
set_option maxHeartbeats 4000000
/-! matching told argument by argument; a part put in the place of another one -/
namespace Lw
open PySem PySem.Spec
open PyProof.Rows L2
theorem nodup_len : ∀ (l m : List Int), l.Nodup → (∀ x ∈ l, x ∈ m) → l.length ≤ m.length
  | [], m, _, _ => Nat.zero_le _
  | x :: l, m, hn, hs => by
    rw [List.nodup_cons] at hn
    have hx := hs x (by simp)
    have h1 := nodup_len l (m.erase x) hn.2 fun y hy => by
      have ne : y ≠ x := fun z => hn.1 (by rw [← z]; exact hy)
      exact (List.mem_erase_of_ne ne).mpr (hs y (List.mem_cons_of_mem _ hy))
    rw [List.length_erase_of_mem hx] at h1
    have h2 := List.length_pos_of_mem hx
    rw [List.length_cons]
    omega
/-- what stands for a variable is a part of the instance -/
theorem Tm.ins_part {θ : Int → Tm} : ∀ (n : Nat) (p : Tm), p.size ≤ n → ∀ i ∈ p.ints, (θ i).size ≤ (p.ins θ).size ∧ (θ i).depth ≤ (p.ins θ).depth ∧ ((p.ins θ).Nice → (θ i).Nice) := fun n => by
  induction n with
  | zero => intro p h; have := p.size_pos; omega
  | succ n ih =>
    intro p h i hi
    cases p with
    | var j =>
      rw [Tm.ints_var] at hi
      rw [List.mem_singleton.mp hi, Tm.ins_var]
      exact ⟨Nat.le_refl _, Nat.le_refl _, id⟩
    | app m ts =>
      rw [Tm.size_app] at h
      rw [Tm.ints_app] at hi
      obtain ⟨u, hu, e⟩ := List.mem_filterMap.mp hi
      obtain ⟨t, ht, hu⟩ := Tm.mem_occs.mp hu
      have hs := Tm.size_mem ht
      obtain ⟨a1, a2, a3⟩ := ih t (by omega) i (List.mem_filterMap.mpr ⟨u, hu, e⟩)
      have hm : t.ins θ ∈ ts.map (Tm.ins θ) := List.mem_map.mpr ⟨t, ht, rfl⟩
      rw [Tm.ins_app]
      have b1 := Tm.size_mem hm
      have b2 := Tm.depth_mem hm
      rw [Tm.size_app, Tm.depth_app, Tm.nice_app]
      exact ⟨by omega, by omega, fun hn => a3 ((Tm.nices_iff _).mp hn.2 _ hm)⟩
theorem d_alikeP2 {K : PySem.W.Frag} {H : Hp} {Q : VK} {E : XK} {a b : Addr} {xs ys : List V} {L : List (Int × Tm)} (e1 : H a = some (.tup xs)) (e2 : H b = some (.tup ys)) (h1 : PrV H xs L) (h2 : PrV H ys L)
    (hk : ∀ p ∈ L, 0 ≤ p.1 ∧ p.1 < 1000000000000 ∧ p.2.Nice ∧ p.2.depth ≤ 60 ∧ p.2.size ≤ 2500) (hl : L.length ≤ 4) (q : ∀ H', Kp [] H H' → Q (.bl true) H') : spAlikeD K [.ref a, .ref b] H Q E := by
  refine ⟨_, _, .tuple (L.map prD), rfl, dp_tup e1 h1.dps, dp_tup e2 h2.dps, (Gd.tup (b := 61) (w := 2 * 105000 + 1) (b' := 62) (w' := 4 * (2 * 105000 + 1) + 1) (fun d hd => ?_) (by decide) (by rw [List.length_map]; omega)).good (by decide) (by decide), .inr ⟨⟨_, _, rfl, e1⟩, ⟨_, _, rfl, e2⟩⟩, q⟩
  obtain ⟨p, hp, rfl⟩ := List.mem_map.mp hd
  obtain ⟨k0, k1, k2, k3, k4⟩ := hk p hp
  refine Gd.tup (b := 60) (w := 105000) (fun d hd => ?_) (by decide) (by show 2 * 105000 + 1 ≤ 2 * 105000 + 1; decide)
  rcases List.mem_cons.mp hd with z | hd
  · rw [z]; exact (Gd.int k0 k1).mono (by decide) (by decide)
  · rw [List.mem_singleton.mp hd]
    exact (Gd.tm k2 k3 k4).mono (Nat.le_refl _) (by decide)
theorem d_eqT {K : PySem.W.Frag} {H : Hp} {Q : VK} {x y : V} {t u : Tm} (hx : At H x t) (hy : At H y u) (nt : t.Nice) (nu : u.Nice) (dt : t.depth ≤ 61) (du : u.depth ≤ 61) (q : Q (.bl (decide (t = u))) H) : rEqD K x y H Q :=
  ⟨t.dat, u.dat, hx.dp, hy.dp, shaped_of (Tm.dat_can t nt) (by have := Tm.dat_dep t; omega), shaped_of (Tm.dat_can u nu) (by have := Tm.dat_dep u; omega), by rw [Tm.eqv_dec nt]; exact q⟩
/-! ### found and found further -/
def FitF (θ : Int → Tm) (fs : List (Int × Tm)) : Prop := ∀ q ∈ fs, θ q.1 = q.2
/-- fs2 is found from fs by these pairs of terms -/
structure Fnd (fs : List (Int × Tm)) (gs ss : List Tm) (fs2 : List (Int × Tm)) : Prop where
  sol : ∀ θ, (FitF θ fs ∧ gs.map (Tm.ins θ) = ss) ↔ FitF θ fs2
  keys : ∀ i, i ∈ fs2.map (·.1) ↔ i ∈ fs.map (·.1) ∨ i ∈ Tm.intss gs
  nd : (fs2.map (·.1)).Nodup
theorem Fnd.nil {fs : List (Int × Tm)} (h : (fs.map (·.1)).Nodup) : Fnd fs [] [] fs := ⟨fun θ => ⟨fun h => h.1, fun h => ⟨h, rfl⟩⟩, fun i => by rw [Tm.intss_nil]; simp, h⟩
theorem Fnd.snoc {fs fs2 fs3 : List (Int × Tm)} {gs ss : List Tm} {g s : Tm} (h : Fnd fs gs ss fs2) (h2 : Fnd fs2 [g] [s] fs3) : Fnd fs (gs ++ [g]) (ss ++ [s]) fs3 := by
  refine ⟨fun θ => ?_, fun i => ?_, h2.nd⟩
  · rw [← h2.sol, ← h.sol, List.map_append]
    constructor
    · rintro ⟨a, e⟩
      obtain ⟨e1, e2⟩ := List.append_inj' e rfl
      exact ⟨⟨a, e1⟩, e2⟩
    · rintro ⟨⟨a, e1⟩, e2⟩
      exact ⟨a, by rw [e1, e2]⟩
  · rw [h2.keys, h.keys, Tm.intss_append, List.mem_append, or_assoc]
theorem Fnd.bind {fs : List (Int × Tm)} {i : Int} {s : Tm} (h : (fs.map (·.1)).Nodup) (hi : i ∉ fs.map (·.1)) : Fnd fs [.var i] [s] (fs ++ [(i, s)]) := by
  refine ⟨fun θ => ?_, fun j => ?_, ?_⟩
  · show FitF θ fs ∧ [(Tm.var i).ins θ] = [s] ↔ _
    rw [Tm.ins_var]
    constructor
    · rintro ⟨a, e⟩ q hq
      rcases List.mem_append.mp hq with hq | hq
      · exact a q hq
      · rw [List.mem_singleton.mp hq]
        exact List.head_eq_of_cons_eq e
    · intro a
      exact ⟨fun q hq => a q (List.mem_append_left _ hq), by rw [a (i, s) (by simp)]⟩
  · rw [List.map_append, List.mem_append, Tm.intss_cons, Tm.intss_nil, Tm.ints_var]
    simp
  · rw [List.map_append, List.nodup_append]
    exact ⟨h, by simp, fun a ha b hb z => hi (by rw [z, List.mem_singleton.mp hb] at ha; exact ha)⟩
theorem Fnd.same {fs : List (Int × Tm)} {i : Int} {s : Tm} (h : (fs.map (·.1)).Nodup) (hi : (i, s) ∈ fs) : Fnd fs [.var i] [s] fs := by
  refine ⟨fun θ => ⟨fun a => a.1, fun a => ⟨a, ?_⟩⟩, fun j => ?_, h⟩
  · show [(Tm.var i).ins θ] = [s]
    rw [Tm.ins_var, a (i, s) hi]
  · rw [Tm.intss_cons, Tm.intss_nil, Tm.ints_var]
    refine ⟨.inl, fun a => a.elim id fun z => ?_⟩
    have z2 : j = i := by simpa using z
    rw [z2]
    exact List.mem_map.mpr ⟨_, hi, rfl⟩
/-- the arguments give the application -/
theorem Fnd.app {fs fs2 : List (Int × Tm)} {n : Str} {gs ss : List Tm} (h : Fnd fs gs ss fs2) : Fnd fs [.app n gs] [.app n ss] fs2 := by
  refine ⟨fun θ => ?_, fun i => ?_, h.nd⟩
  · rw [← h.sol]
    show FitF θ fs ∧ [(Tm.app n gs).ins θ] = [.app n ss] ↔ _
    rw [Tm.ins_app]
    simp
  · rw [h.keys, Tm.intss_cons, Tm.intss_nil, List.append_nil, Tm.ints_app]
def niceF (fs : List (Int × Tm)) : Prop := ∀ q ∈ fs, q.2.Nice ∧ q.2.depth ≤ 61
def spMatched (d : Nat) : Sp := fun vs H Q _ => ∃ (v w : V) (l : Addr) (p t : Tm) (kvs : List (Key × V)) (fs : List (Int × Tm)), vs = [v, w, .ref l] ∧ At H v p ∧ At H w t ∧ p.depth ≤ d ∧ t.Nice ∧ t.depth ≤ 61 ∧ fs.length + p.size ≤ 100000 ∧ H l = some (.dK kvs) ∧ PairTm H kvs fs ∧ niceF fs ∧ (fs.map (·.1)).Nodup ∧
  (∀ H' kvs2 fs2, Kp [l] H H' → H' l = some (.dK kvs2) → PairTm H' kvs2 fs2 → niceF fs2 → fs2.length ≤ fs.length + p.size → Fnd fs [p] [t] fs2 → Q (.bl true) H') ∧
  ∀ H' kvs2, Kp [l] H H' → H' l = some (.dK kvs2) → (∀ θ, FitF θ fs → p.ins θ ≠ t) → Q (.bl false) H'
/-- some part replaced by a small one -/
def spPut (d : Nat) : Sp := fun vs H Q _ => ∃ (v u : V) (i : Int) (tm nw : Tm), vs = [v, .int i, u] ∧ At H v tm ∧ At H u nw ∧ tm.depth ≤ d ∧ tm.size ≤ 100000 ∧ tm.Nice ∧ nw.Nice ∧ nw.size = 1 ∧ nw.depth = 1 ∧
  ∀ H' v' t', Kp [] H H' → At H' v' t' → t'.Nice → t'.depth ≤ tm.depth → t'.size ≤ tm.size → Q v' H'
theorem d_isBool {H : Hp} {Q : VK} {x : V} (q : Q (.bl (decide (x = .non))) H) : rIsN x .non H Q := ⟨rfl, q⟩
end Lw

set_option maxRecDepth 100000
set_option maxHeartbeats 4000000
/-! numbering of variables -/
namespace Lw
open PySem PySem.Spec
open PyProof.Rows L2
/-- each variable of V to the one that f says of its place -/
def renT (f : Nat → Int) (V : List Int) : Int → Option Tm := fun i => if i ∈ V then some (.var (f (V.idxOf i))) else none
theorem renT_nil (f : Nat → Int) : renT f [] = fun _ => none := funext fun i => if_neg List.not_mem_nil
theorem renT_snoc {f : Nat → Int} {L : List Int} {v : Int} (h : v ∉ L) : renT f (L ++ [v]) = fun j => if j = v then some (.var (f L.length)) else renT f L j := by
  funext j
  unfold renT
  by_cases e : j = v
  · subst e
    rw [if_pos (by simp), if_pos rfl, List.idxOf_append, if_neg h]
    simp
  · rw [if_neg e]
    by_cases m : j ∈ L
    · rw [if_pos (by simp [m]), if_pos m, List.idxOf_append, if_pos m]
    · rw [if_neg (by simp [m, e]), if_neg m]
def vrs (ts : List Tm) : List Int := adds [] (Tm.intss ts)
theorem vrs_nodup (ts : List Tm) : (vrs ts).Nodup := adds_nodup _ _ List.nodup_nil
theorem mem_vrs {ts : List Tm} {i : Int} : i ∈ vrs ts ↔ i ∈ Tm.intss ts := by
  unfold vrs
  rw [mem_adds]
  simp
theorem len_vrs (ts : List Tm) : (vrs ts).length ≤ Tm.sizes ts := by
  have h1 := len_adds (Tm.intss ts) []
  have h2 := Tm.len_intss ts
  unfold vrs
  have : ([] : List Int).length = 0 := rfl
  omega
/-- numbered through all of them -/
def numd (ts : List Tm) : List Tm := ts.map fun t => t.sub (renT (fun k => (k : Int)) (vrs ts))
mutual
theorem Tm.ints_ren {θ : Int → Option Tm} {ρ : Int → Int} : ∀ t : Tm, (∀ i ∈ t.ints, θ i = some (.var (ρ i))) → (t.sub θ).ints = t.ints.map ρ
  | .var i, h => by
    rw [Tm.sub_var, h i (by rw [Tm.ints_var]; simp), Tm.ints_var]
    show (Tm.var (ρ i)).ints = _
    rw [Tm.ints_var]; rfl
  | .app n ts, h => by
    rw [Tm.sub_app, Tm.ints_app, Tm.ints_app]
    rw [Tm.ints_app] at h
    exact Tm.intss_ren ts h
theorem Tm.intss_ren {θ : Int → Option Tm} {ρ : Int → Int} : ∀ ts : List Tm, (∀ i ∈ Tm.intss ts, θ i = some (.var (ρ i))) → Tm.intss (Tm.subs θ ts) = (Tm.intss ts).map ρ
  | [], _ => by rw [Tm.subs, Tm.intss_nil]; rfl
  | t :: r, h => by
    rw [Tm.intss_cons] at h
    rw [Tm.subs, Tm.intss_cons, Tm.intss_cons, List.map_append, Tm.ints_ren t (fun i hi => h i (List.mem_append_left _ hi)), Tm.intss_ren r (fun i hi => h i (List.mem_append_right _ hi))]
end
theorem adds_map {ρ : Int → Int} : ∀ (xs acc : List Int), (∀ x ∈ acc ++ xs, ∀ y ∈ acc ++ xs, ρ x = ρ y → x = y) → adds (acc.map ρ) (xs.map ρ) = (adds acc xs).map ρ
  | [], acc, _ => rfl
  | x :: r, acc, h => by
    rw [List.map_cons, adds_cons, adds_cons]
    have e : addN (acc.map ρ) (ρ x) = (addN acc x).map ρ := by
      by_cases m : x ∈ acc
      · rw [addN_in m, addN_in (List.mem_map_of_mem m)]
      · rw [addN_not m, addN_not, List.map_append]
        · rfl
        · intro z
          obtain ⟨y, hy, e⟩ := List.mem_map.mp z
          exact m (h y (by simp [hy]) x (by simp) e ▸ hy)
    rw [e]
    refine adds_map r _ fun a ha b hb => h a ?_ b ?_
    · rcases List.mem_append.mp ha with z | z
      · rcases mem_addN.mp z with z | z <;> simp [z]
      · simp [z]
    · rcases List.mem_append.mp hb with z | z
      · rcases mem_addN.mp z with z | z <;> simp [z]
      · simp [z]
def InjOn (ρ : Int → Int) (V : List Int) : Prop := ∀ x ∈ V, ∀ y ∈ V, ρ x = ρ y → x = y
theorem idx_map {ρ : Int → Int} : ∀ {V : List Int} {i : Int}, InjOn ρ V → i ∈ V → (V.map ρ).idxOf (ρ i) = V.idxOf i
  | [], _, _, h => nomatch h
  | x :: r, i, h, hi => by
    rw [List.map_cons, List.idxOf_cons, List.idxOf_cons]
    by_cases e : x = i
    · subst e; simp
    · have n : ¬ ρ x = ρ i := fun z => e (h x (by simp) i hi z)
      have m : i ∈ r := by rcases List.mem_cons.mp hi with z | z; exact absurd z.symm e; exact z
      rw [show (ρ x == ρ i) = false from by simpa using n, show (x == i) = false from by simpa using e]
      show (List.map ρ r).idxOf (ρ i) + 1 = r.idxOf i + 1
      rw [idx_map (fun a ha b hb => h a (List.mem_cons_of_mem _ ha) b (List.mem_cons_of_mem _ hb)) m]
theorem idx_inj {V : List Int} {i j : Int} (hi : i ∈ V) (hj : j ∈ V) (e : V.idxOf i = V.idxOf j) : i = j := by
  have h1 := List.getElem_idxOf (List.idxOf_lt_length_iff.mpr hi)
  have h2 := List.getElem_idxOf (List.idxOf_lt_length_iff.mpr hj)
  rw [← h1, ← h2]
  simp only [e]
theorem vrs_ren {θ : Int → Option Tm} {ρ : Int → Int} {ts : List Tm} (h : ∀ i ∈ vrs ts, θ i = some (.var (ρ i))) (inj : InjOn ρ (vrs ts)) : vrs (ts.map (Tm.sub θ)) = (vrs ts).map ρ := by
  unfold vrs
  rw [← Tm.subs_map, Tm.intss_ren ts fun i hi => h i (mem_vrs.mpr hi)]
  exact adds_map _ [] fun x hx y hy => inj x (mem_vrs.mpr hx) y (mem_vrs.mpr hy)
/-- what is renamed one to one is numbered alike -/
theorem numd_ren {θ : Int → Option Tm} {ρ : Int → Int} {ts : List Tm} (h : ∀ i ∈ vrs ts, θ i = some (.var (ρ i))) (inj : InjOn ρ (vrs ts)) : numd (ts.map (Tm.sub θ)) = numd ts := by
  unfold numd
  rw [vrs_ren h inj, List.map_map]
  refine List.map_congr_left fun t ht => ?_
  have hm : ∀ i ∈ t.ints, i ∈ vrs ts := fun i hi => mem_vrs.mpr (by
    obtain ⟨a, b, e⟩ := List.append_of_mem ht
    rw [e, Tm.intss_append, Tm.intss_cons]
    simp [hi])
  show (t.sub θ).sub _ = _
  rw [Tm.sub_congr (θ' := fun i => some (.var (ρ i))) t fun i hi => h i (hm i hi)]
  rw [Tm.sub_sub (c := fun i => some (((renT (fun k => (k : Int)) ((vrs ts).map ρ)) (ρ i)).getD (.var (ρ i)))) fun i => by
    show (Tm.var (ρ i)).sub _ = _
    rw [Tm.sub_var]; rfl]
  refine Tm.sub_congr t fun i hi => ?_
  have m := hm i hi
  unfold renT
  rw [if_pos m, if_pos (List.mem_map_of_mem m), idx_map inj m]
  rfl
theorem renT_in {f : Nat → Int} {V : List Int} : ∀ i ∈ V, renT f V i = some (.var (f (V.idxOf i))) := fun i h => if_pos h
theorem inj_idx {f : Nat → Int} {V : List Int} (h : ∀ a < V.length, ∀ b < V.length, f a = f b → a = b) : InjOn (fun i => f (V.idxOf i)) V := fun x hx y hy e =>
  idx_inj hx hy (h _ (List.idxOf_lt_length_iff.mpr hx) _ (List.idxOf_lt_length_iff.mpr hy) e)
theorem numd_numd (ts : List Tm) : numd (numd ts) = numd ts :=
  numd_ren (θ := renT (fun k => (k : Int)) (vrs ts)) renT_in (inj_idx (f := fun k => (k : Int)) fun a _ b _ e => Int.ofNat.inj e)
theorem len_vrs_numd (ts : List Tm) : (vrs (numd ts)).length = (vrs ts).length := by
  have e := vrs_ren (θ := renT (fun k => (k : Int)) (vrs ts)) (ts := ts) renT_in (inj_idx (f := fun k => (k : Int)) fun a _ b _ e => Int.ofNat.inj e)
  show (vrs (ts.map (Tm.sub (renT (fun k => (k : Int)) (vrs ts))))).length = _
  rw [e, List.length_map]
/-- fewer variables: numbered otherwise -/
theorem numd_few {ts us : List Tm} {W : List Int} (h : ∀ i ∈ Tm.intss us, i ∈ W) (l : W.length < (vrs ts).length) : numd us ≠ numd ts := fun e => by
  have h1 := len_vrs_numd ts
  rw [← e, len_vrs_numd] at h1
  have h2 := nodup_len (vrs us) W (vrs_nodup us) fun i hi => h i (mem_vrs.mp hi)
  omega
mutual
theorem Tm.ints_sub {θ : Int → Option Tm} : ∀ (t : Tm) (i : Int), i ∈ (t.sub θ).ints → ∃ j ∈ t.ints, i ∈ ((θ j).getD (.var j)).ints
  | .var j, i, h => ⟨j, by rw [Tm.ints_var]; simp, by rw [Tm.sub_var] at h; exact h⟩
  | .app n ts, i, h => by
    rw [Tm.sub_app, Tm.ints_app] at h
    rw [Tm.ints_app]
    exact Tm.intss_sub ts i h
theorem Tm.intss_sub {θ : Int → Option Tm} : ∀ (ts : List Tm) (i : Int), i ∈ Tm.intss (Tm.subs θ ts) → ∃ j ∈ Tm.intss ts, i ∈ ((θ j).getD (.var j)).ints
  | [], i, h => by rw [Tm.subs, Tm.intss_nil] at h; cases h
  | t :: r, i, h => by
    rw [Tm.subs, Tm.intss_cons] at h
    rw [Tm.intss_cons]
    rcases List.mem_append.mp h with h | h
    · obtain ⟨j, h1, h2⟩ := Tm.ints_sub t i h
      exact ⟨j, List.mem_append_left _ h1, h2⟩
    · obtain ⟨j, h1, h2⟩ := Tm.intss_sub r i h
      exact ⟨j, List.mem_append_right _ h1, h2⟩
end
theorem len_erase {V : List Int} {b : Int} (h : b ∈ V) : (V.erase b).length < V.length := by
  rw [List.length_erase_of_mem h]
  have : 0 < V.length := List.length_pos_of_mem h
  omega
/-- a variable that is another one's, too, or none any more -/
theorem numd_drop {θ : Int → Option Tm} {ρ : Int → Int} {ts : List Tm} {b : Int} (hb : b ∈ vrs ts) (h : ∀ i ∈ vrs ts, i ≠ b → θ i = some (.var (ρ i))) (hd : ∀ i, i ∈ ((θ b).getD (.var b)).ints → ∃ a ∈ vrs ts, a ≠ b ∧ i = ρ a) : numd (ts.map (Tm.sub θ)) ≠ numd ts := by
  refine numd_few (W := ((vrs ts).erase b).map ρ) (fun i hi => ?_) (by rw [List.length_map]; exact len_erase hb)
  rw [← Tm.subs_map] at hi
  obtain ⟨j, hj, hi⟩ := Tm.intss_sub ts i hi
  have mj := mem_vrs.mpr hj
  have er : ∀ a ∈ vrs ts, a ≠ b → ρ a ∈ ((vrs ts).erase b).map ρ := fun a ha hn => List.mem_map_of_mem ((List.mem_erase_of_ne hn).mpr ha)
  by_cases e : j = b
  · subst e
    obtain ⟨a, ha, hn, rfl⟩ := hd i hi
    exact er a ha hn
  · rw [h j mj e] at hi
    have hi : i ∈ (Tm.var (ρ j)).ints := hi
    rw [Tm.ints_var] at hi
    rw [List.mem_singleton.mp hi]
    exact er j mj e
theorem numd_size (ts : List Tm) : ∀ u ∈ numd ts, ∃ t ∈ ts, u.size ≤ t.size ∧ u.depth ≤ t.depth := fun u hu => by
  obtain ⟨t, ht, rfl⟩ := List.mem_map.mp hu
  have hv : ∀ i t, renT (fun k => (k : Int)) (vrs ts) i = some t → ∃ j : Nat, t = .var j ∧ j ≤ (vrs ts).length := fun i t e => by
    unfold renT at e
    split at e
    · exact ⟨_, (Option.some.inj e).symm, List.idxOf_le_length⟩
    · cases e
  refine ⟨t, ht, ?_, ?_⟩
  · have := Tm.sub_size (m := 1) (Nat.le_refl _) (fun i t e => by obtain ⟨j, rfl, _⟩ := hv i t e; rw [Tm.size_var]; exact Nat.le_refl _) t
    omega
  · exact Tm.sub_depth (b := 0) (fun i t e => by obtain ⟨j, rfl, _⟩ := hv i t e; rw [Tm.depth_var]; omega) t
theorem numd_nice {ts : List Tm} (h : ∀ t ∈ ts, t.Nice) (hz : Tm.sizes ts ≤ 100000) : ∀ u ∈ numd ts, u.Nice := fun u hu => by
  obtain ⟨t, ht, rfl⟩ := List.mem_map.mp hu
  refine Tm.sub_nice (fun i t e => ?_) t (h t ht)
  unfold renT at e
  split at e
  · rw [← Option.some.inj e, Tm.nice_var]
    have := List.idxOf_le_length (a := i) (l := vrs ts)
    have := len_vrs ts
    show (0 : Int) ≤ ((vrs ts).idxOf i : Int) ∧ ((vrs ts).idxOf i : Int) < 1000000000000
    omega
  · cases e
theorem numd_sizes (ts : List Tm) : Tm.sizes (numd ts) ≤ Tm.sizes ts := by
  unfold numd
  rw [← Tm.subs_map]
  have := Tm.subs_size (θ := renT (fun k => (k : Int)) (vrs ts)) (m := 1) (Nat.le_refl _) (fun i t e => by
    unfold renT at e
    split at e
    · rw [← Option.some.inj e, Tm.size_var]; exact Nat.le_refl _
    · cases e) ts
  omega
theorem len_numd (ts : List Tm) : (numd ts).length = ts.length := by unfold numd; rw [List.length_map]
end Lw

set_option maxRecDepth 100000
set_option maxHeartbeats 4000000
/-! {x: i for i, x in enumerate(t)}; the promises of numbered -/
namespace Lw
open PySem PySem.Spec
open PyProof.Rows L2
theorem dc_enumT {K : PySem.W.Frag} {r D : Addr} {us : List V} {gt : TG} {ts : TT} {ek ev : TE} {ws : List Nat} {σ : L2.St} {B : Hp} {Qz : Hp → Prop} (J : Nat → Hp → Prop) (j0 : J 0 (upd B D (.dK [])))
    (jr : ∀ i H, i ≤ us.length → J i H → SqT K H r us)
    (js : ∀ i u H p, us[i]? = some u → J i H → H p = none → gt (.ref p) (wipe σ ws) (upd H p (.tup [.int (i : Nat), u])) fun σ2 H2 => wipe σ2 ws = wipe σ ws ∧
      ts σ2 H2 fun b H3 => if b = true then ek σ2 H3 fun y H4 => ev σ2 H4 fun z H5 => ∃ kvs k, y = kV k ∧ H5 D = some (.dK kvs) ∧ kvs.length < sizeLine ∧ J (i + 1) (upd H5 D (.dK (putK kvs k z))) else J (i + 1) H3)
    (jz : ∀ H, J us.length H → Qz H) :
    ∃ W : Nat → Nat → Hp → Prop, (∃ m, W 0 m (upd B D (.dK []))) ∧ ∀ i m H, W i m H → ((Iet K r).stop i H ∧ Qz H) ∨
      ((Iet K r).go i H ∧ ∃ Nx : Hp → Prop, (∀ H', Nx H' → ∃ m', m' < m ∧ W (i + 1) m' H') ∧ ∀ x H', (Iet K r).yld i H x H' → gt x (wipe σ ws) H' fun σ2 H2 => wipe σ2 ws = wipe σ ws ∧
        ts σ2 H2 fun b H3 => if b = true then ek σ2 H3 fun y H4 => ev σ2 H4 fun z H5 => ∃ kvs k, y = kV k ∧ H5 D = some (.dK kvs) ∧ kvs.length < sizeLine ∧ Nx (upd H5 D (.dK (putK kvs k z))) else Nx H3) := by
  refine ⟨fun i m H => m + i = us.length ∧ J i H, ⟨us.length, rfl, j0⟩, fun i m H ⟨hm, j⟩ => ?_⟩
  have e := jr i H (by omega) j
  by_cases hi : i < us.length
  · refine .inr ⟨⟨us, us[i], e, List.getElem?_eq_getElem hi⟩, J (i + 1), fun H' j' => ⟨m - 1, by omega, by omega, j'⟩, fun x H' y => ?_⟩
    obtain ⟨p, u, rfl, hp, rfl, hu⟩ := y
    exact js i u H p (hu us e) j hp
  · have z : i = us.length := by omega
    subst z
    exact .inl ⟨⟨us, e, rfl⟩, jz H j⟩
theorem d_dc {wi : TI} {g : TG} {tt : TT} {tk tv : TE} {vs : List Nat} {σ : L2.St} {H : Hp} {Q : VK} (q : wi σ H fun J H1 => ∀ D, H1 D = none → ∃ W : Nat → Nat → Hp → Prop, (∃ m, W 0 m (upd H1 D (.dK []))) ∧ ∀ i m H, W i m H →
  (J.stop i H ∧ Q (.ref D) H) ∨ (J.go i H ∧ ∃ Nx : Hp → Prop, (∀ H', Nx H' → ∃ m', m' < m ∧ W (i + 1) m' H') ∧ ∀ x H', J.yld i H x H' → g x (wipe σ vs) H' fun σ2 H2 => wipe σ2 vs = wipe σ vs ∧ tt σ2 H2 fun b H3 =>
    if b = true then tk σ2 H3 fun y H4 => tv σ2 H4 fun z H5 => ∃ kvs k, y = kV k ∧ H5 D = some (.dK kvs) ∧ kvs.length < sizeLine ∧ Nx (upd H5 D (.dK (putK kvs k z))) else Nx H3)) : tDc wi g tt tk tv vs σ H Q := q
/-- a generator expression over a tuple of terms; its table at P, that of the def it calls at P1 -/
theorem gx_tms2 {K : PySem.W.Frag} {r P P1 : Addr} {vs : List V} {ts : List Tm} {ws : List (Option V)} {B : Hp} {te : TE} {cont : List V → Hp → Prop} (g : Tm → Tm) (er : B r = some (.tup vs)) (hn : vs.length ≤ 100000) (a : Ats B vs ts) (tb : GxR.TabG B P) (tb1 : GxR.TabG B P1)
    (call : ∀ v t H' (Q : VK), t ∈ ts → At H' v t → Kp [P, P1] B H' → GxR.TabG H' P1 → (∀ H'' v', Kp [P1] H' H'' → GxR.TabG H'' P1 → At H'' v' (g t) → Q v' H'') → te (some v :: ws) H' Q)
    (nP : P ≠ P1) (hd : ∀ H' vs', Kp [P, P1] B H' → GxR.TabG H' P → GxR.TabG H' P1 → Ats H' vs' (ts.map g) → cont vs' H') : GxB (Itt K r) te ws B cont := by
  have nT : ∀ {H : Hp}, GxR.TabG H P → GxR.TabG H P1 → ∀ b ∈ [P, P1], ∀ ys, H b ≠ some (.tup ys) := fun {H} t t1 b hb ys => by
    rcases List.mem_cons.mp hb with z | z
    · exact no_tupT t b (by simp [z]) ys
    · exact no_tupT t1 b z ys
  have nr : r ∉ [P, P1] := fun z => nT tb tb1 r z vs er
  refine ⟨fun m j ys H' => m + j = vs.length ∧ Kp [P, P1] B H' ∧ GxR.TabG H' P ∧ GxR.TabG H' P1 ∧ ∃ gs, Ats H' ys gs ∧ gs = (ts.take j).map g, ⟨vs.length, rfl, Kp.refl _ _, tb, tb1, [], .nil, rfl⟩, fun m j ys H' ⟨hm, kB, tH, tH1, gs, ay, eg⟩ => ?_⟩
  subst eg
  have eH := kB _ _ nr er
  by_cases hj : j < vs.length
  · obtain ⟨t, et, atm⟩ := a.get (List.getElem?_eq_getElem hj)
    have l1 := ay.len
    rw [List.length_map, List.length_take] at l1
    refine .inr ⟨⟨vs, vs[j], sqT eH, List.getElem?_eq_getElem hj⟩, smallL (by omega), fun ys' H2 => m = (m - 1) + 1 ∧ (m - 1) + (j + 1) = vs.length ∧ Kp [P, P1] B H2 ∧ GxR.TabG H2 P ∧ GxR.TabG H2 P1 ∧ ∃ gs, Ats H2 ys' gs ∧ gs = (ts.take (j + 1)).map g, fun ys' H2 ⟨h0, h⟩ => ⟨m - 1, by omega, h⟩, fun y H2 hy => ?_⟩
    obtain ⟨rfl, hy⟩ := hy
    have hv := hy vs (sqT eH)
    rw [List.getElem?_eq_getElem hj] at hv
    cases hv
    refine call _ t H2 _ (List.mem_of_getElem? et) (atm.keep (kB.keepT (nT tb tb1))) kB tH1 fun H3 v3 k3 t3 a3 => ?_
    refine ⟨by omega, by omega, kB.trans (k3.mono (by simp)), GxR_one tH k3 nP, t3, _, (k3.ats (no_tupT tH1) ay).append (.one a3), ?_⟩
    rw [take_succ_of et, List.map_append]
    rfl
  · have hj2 : j = vs.length := by omega
    subst hj2
    rw [a.take_all] at ay
    exact .inl ⟨⟨vs, sqT eH, Nat.le_refl _⟩, hd H' ys kB tH tH1 ay⟩
/-- the same over a list -/
theorem lb_tmsL {K : PySem.W.Frag} {r : Addr} {vs : List V} {ts : List Tm} {σ : L2.St} {i : Nat} {B : Hp} {D : Addr} {Qd : Hp → Prop} {te : TE} (g : Tm → Tm) (hi : i < σ.length) (hD : B D = none) (er : B r = some (.lst vs)) (hn : vs.length ≤ 100000) (a : Ats B vs ts)
    (call : ∀ v t H' (Q : VK), t ∈ ts → At H' v t → Kp [D] B H' → (∀ H'' v', Kp [] H' H'' → At H'' v' (g t) → Q v' H'') → te ((wipe σ [i]).set i (some v)) H' Q)
    (hd : ∀ H' vs', Kp [D] B H' → H' D = some (.lst vs') → Ats H' vs' (ts.map g) → Qd H') : LcB (Itl K r) (gName i) tYes te [i] σ B D Qd := by
  have nr : r ≠ D := ne_of_none er hD
  refine lb_list (xs := vs) (fun j H' => Kp [D] B H' ∧ ∃ vs' gs, H' D = some (.lst vs') ∧ Ats H' vs' gs ∧ gs = (ts.take j).map g) ⟨Kp.new hD, [], [], upd_same, .nil, rfl⟩ (fun j H' _ h => sqL (h.1.one nr er)) (fun j v H' hv h => ?_) (fun H' h => ?_)
  · obtain ⟨kB, vs', gs, eD, aD, rfl⟩ := h
    obtain ⟨t, et, atm⟩ := a.get hv
    refine ⟨by show ((σ.set i none).set i _).set i none = σ.set i none; rw [List.set_set, List.set_set], ?_⟩
    refine call v t H' _ (List.mem_of_getElem? et) (atm.keep (kB.keepT (no_tup0 hD))) kB fun H2 v2 k2 a2 => ?_
    have eD2 := k2 _ _ (by simp) eD
    have kd : Kp [D] H2 (upd H2 D (.lst (vs' ++ [v2]))) := Kp.put (by simp)
    have l1 := aD.len
    have l2 := a.len
    rw [List.length_map, List.length_take] at l1
    refine ⟨_, eD2, smallL (by omega), (kB.trans (k2.mono (by simp))).trans kd, _, _, upd_same, (kd.ats (no_tup1 eD2) ((k2.ats (by simp) aD).append (.one a2))), ?_⟩
    rw [take_succ_of et, List.map_append]
    rfl
  · obtain ⟨kB, vs', gs, eD, aD, rfl⟩ := h
    rw [a.take_all] at aD
    exact hd H' vs' kB eD aD
/-- P1: instance_of's table, P2: numbered's -/
def spNumbered (P1 P2 : Addr) (d : Nat) : Sp := fun vs H Q _ => ∃ (a : Addr) (xs : List V) (ts : List Tm), vs = [.ref a] ∧ H a = some (.tup xs) ∧ Ats H xs ts ∧ (∀ t ∈ ts, t.depth ≤ d) ∧ Tm.sizes ts ≤ 100000 ∧ GxR.TabG H P1 ∧ GxR.TabG H P2 ∧
  ∀ H' p ys, Kp [P1, P2] H H' → GxR.TabG H' P1 → GxR.TabG H' P2 → H' p = some (.tup ys) → Ats H' ys (numd ts) → Q (.ref p) H'
def spLNumbered (d : Nat) : Sp := fun vs H Q _ => ∃ (a : Addr) (xs : List V) (ts : List Tm), vs = [.ref a] ∧ H a = some (.lst xs) ∧ Ats H xs ts ∧ (∀ t ∈ ts, t.depth ≤ d) ∧ Tm.sizes ts ≤ 100000 ∧
  ∀ H' p ys, Kp [] H H' → H p = none → H' p = some (.lst ys) → Ats H' ys (numd ts) → Q (.ref p) H'
end Lw

set_option maxRecDepth 100000
set_option maxHeartbeats 4000000
/-! what k04's law wants beside -/
namespace Lw
open PySem PySem.Spec
open PyProof.Rows L2
section
variable {B H H' : Hp} {t sc : Addr} {ns : List Int} {P1 P2 : Addr}
theorem Wd.two (w : Wd B H t sc ns P1 P2) (k : Kp [P1, P2] H H') (g1 : GxR.TabG H' P1) (g2 : GxR.TabG H' P2) : Wd B H' t sc ns P1 P2 :=
  ⟨w.k.trans (k.mono (by simp)), ⟨w.n.tp.keep k (by simp [(tape_ne w.n.tp w.n.g1).1, (tape_ne w.n.tp w.n.g2).1]) (by simp [(tape_ne w.n.tp w.n.g1).2, (tape_ne w.n.tp w.n.g2).2]), g1, g2, w.n.ne⟩, w.b⟩
/-- a new list and the tape -/
theorem Wd.list (w : Wd B H t sc ns P1 P2) {D : Addr} (k : Kp [D, t] H H') (hD : H D = none) (T : TapeAt H' t sc ns) : Wd B H' t sc ns P1 P2 := w.tape (k.less hD) T
theorem Wd.dw (w : Wd B H t sc ns P1 P2) {sy va : Addr} {zs : List (Str × Int)} {vars : List Tm} (d : Dw B t sc sy va ns zs vars) : Dw H t sc sy va ns zs vars := by
  obtain ⟨rs, e1, _⟩ := id d.sy.is
  obtain ⟨ws, e2, _⟩ := id d.va.is
  have l : ∀ {a : Addr} {xs : List V}, B a = some (.lst xs) → a ≠ t → a ∉ [t, P1, P2] := fun e h => by
    simp [h, tab_ne w.b.g1 e (fun ps z => by cases z), tab_ne w.b.g2 e (fun ps z => by cases z)]
  exact ⟨w.n.tp, d.sy.keep w.k (l e1 (d.sy.ne d.tp)) w.nt, d.va.keep w.k (l e2 (d.va.ne d.tp)) w.nt⟩
theorem Wd.ats (w : Wd B H t sc ns P1 P2) {vs : List V} {ts : List Tm} (a : Ats B vs ts) : Ats H vs ts := a.keep w.kT
theorem Wd.tup (w : Wd B H t sc ns P1 P2) {a : Addr} {xs : List V} (e : B a = some (.tup xs)) : H a = some (.tup xs) := w.kT _ _ e
end
theorem dats_map : ∀ ts : List Tm, ts.map Tm.dat = Tm.dats ts
  | [] => rfl
  | t :: r => by rw [List.map_cons, dats_map r]; rfl
theorem d_neTS {K : PySem.W.Frag} {H : Hp} {Q : VK} {a b : Addr} {xs ys : List V} {ts us : List Tm} (e1 : H a = some (.tup xs)) (e2 : H b = some (.tup ys)) (h1 : Ats H xs ts) (h2 : Ats H ys us) (n1 : ∀ t ∈ ts, t.Nice) (n2 : ∀ t ∈ us, t.Nice)
    (d1 : ∀ t ∈ ts, t.depth ≤ 60) (d2 : ∀ t ∈ us, t.depth ≤ 60) (s1 : Tm.sizes ts ≤ 20000) (s2 : Tm.sizes us ≤ 20000) (ne : ts ≠ us) (q : Q (.bl true) H) : rNeD K (.ref a) (.ref b) H Q := by
  have e : PyData.eqv (.tuple (ts.map Tm.dat)) (.tuple (us.map Tm.dat)) = false := by
    cases z : PyData.eqv (.tuple (ts.map Tm.dat)) (.tuple (us.map Tm.dat)) with
    | false => rfl
    | true =>
      rw [dats_map, dats_map] at z
      exact absurd (Tm.eqvs_eq ts us z) ne
  refine ⟨.tuple (ts.map Tm.dat), .tuple (us.map Tm.dat), dp_tup e1 h1.dp, dp_tup e2 h2.dp, ((Gd.tms (b := 60) (s := 20000) n1 d1 s1).good (by decide) (by decide)).shaped, ((Gd.tms (b := 60) (s := 20000) n2 d2 s2).good (by decide) (by decide)).shaped, ?_⟩
  rw [e]
  exact q
/-- the variables from base on, by sevens -/
def sevens (b : Int) (k : Nat) : Int := (b + 7 * (k : Int)).fmod 65536
theorem sevens_inj {b : Int} {n : Nat} (hn : n ≤ 6) : ∀ x < n, ∀ y < n, sevens b x = sevens b y → x = y := fun x hx y hy e => by
  unfold sevens at e
  rw [Int.fmod_eq_emod_of_nonneg _ (by decide), Int.fmod_eq_emod_of_nonneg _ (by decide)] at e
  omega
theorem sevens_nice (b : Int) (k : Nat) : 0 ≤ sevens b k ∧ sevens b k < 1000000000000 := by
  unfold sevens
  rw [Int.fmod_eq_emod_of_nonneg _ (by decide)]
  omega
/-- a table all of whose terms are small -/
def Tiny (θ : Int → Option Tm) : Prop := ∀ i t, θ i = some t → t.Nice ∧ t.size ≤ 1 ∧ t.depth ≤ 1
theorem Tiny.ren {f : Nat → Int} {V : List Int} (h : ∀ k, 0 ≤ f k ∧ f k < 1000000000000) : Tiny (renT f V) := fun i t e => by
  unfold renT at e
  split at e
  · rw [← Option.some.inj e]
    exact ⟨(Tm.nice_var _).mpr (h _), by rw [Tm.size_var]; exact Nat.le_refl _, by rw [Tm.depth_var]; exact Nat.le_refl _⟩
  · cases e
theorem Tiny.put {θ : Int → Option Tm} (h : Tiny θ) {b : Int} {t : Tm} (ht : t.Nice ∧ t.size ≤ 1 ∧ t.depth ≤ 1) : Tiny fun j => if j = b then some t else θ j := fun i u e => by
  have e : (if i = b then some t else θ i) = some u := e
  split at e
  · rw [← Option.some.inj e]; exact ht
  · exact h i u e
/-- renamed terms -/
theorem tiny_terms {θ : Int → Option Tm} (h : Tiny θ) {ts : List Tm} (n : ∀ t ∈ ts, t.Nice) {d : Nat} (hd : ∀ t ∈ ts, t.depth ≤ d) : (∀ t ∈ ts.map (Tm.sub θ), t.Nice ∧ t.depth ≤ d) ∧ Tm.sizes (ts.map (Tm.sub θ)) ≤ Tm.sizes ts := by
  refine ⟨fun u hu => ?_, ?_⟩
  · obtain ⟨t, ht, rfl⟩ := List.mem_map.mp hu
    have := Tm.sub_depth (b := 0) (fun i t e => (h i t e).2.2) t
    have := hd t ht
    exact ⟨Tm.sub_nice (fun i t e => (h i t e).1) t (n t ht), by omega⟩
  · rw [← Tm.subs_map]
    have := Tm.subs_size (m := 1) (Nat.le_refl _) (fun i t e => (h i t e).2.1) ts
    omega
/-- a variable renamed as another one -/
theorem drop_var {f : Nat → Int} {ts : List Tm} {a b : Int} (ha : a ∈ vrs ts) (hb : b ∈ vrs ts) (hn : a ≠ b) : numd (ts.map (Tm.sub fun j => if j = b then some (.var (f ((vrs ts).idxOf a))) else renT f (vrs ts) j)) ≠ numd ts :=
  numd_drop (θ := fun j => if j = b then some (.var (f ((vrs ts).idxOf a))) else renT f (vrs ts) j) (ρ := fun i => f ((vrs ts).idxOf i)) hb (fun i hi n => (if_neg n).trans (renT_in i hi)) fun i hi => by
    have hi : i ∈ ((if b = b then some (.var (f ((vrs ts).idxOf a))) else renT f (vrs ts) b).getD (.var b)).ints := hi
    rw [if_pos rfl] at hi
    have hi : i ∈ (Tm.var (f ((vrs ts).idxOf a))).ints := hi
    rw [Tm.ints_var] at hi
    exact ⟨a, ha, hn, List.mem_singleton.mp hi⟩
theorem drop_name {f : Nat → Int} {ts : List Tm} {b : Int} {z : Str} (hb : b ∈ vrs ts) : numd (ts.map (Tm.sub fun j => if j = b then some (.app z []) else renT f (vrs ts) j)) ≠ numd ts :=
  numd_drop (θ := fun j => if j = b then some (.app z []) else renT f (vrs ts) j) (ρ := fun i => f ((vrs ts).idxOf i)) hb (fun i hi n => (if_neg n).trans (renT_in i hi)) fun i hi => by
    have hi : i ∈ ((if b = b then some (.app z []) else renT f (vrs ts) b).getD (.var b)).ints := hi
    rw [if_pos rfl] at hi
    have hi : i ∈ (Tm.app z []).ints := hi
    rw [Tm.ints_app, Tm.intss_nil] at hi
    cases hi
theorem numd_sevens {b : Int} {ts : List Tm} (h : (vrs ts).length ≤ 6) : numd (ts.map (Tm.sub (renT (sevens b) (vrs ts)))) = numd ts :=
  numd_ren renT_in (inj_idx (sevens_inj h))
theorem txt_wide : TxtOk "wide" := ⟨by decide +kernel, by decide +kernel⟩
end Lw

set_option maxRecDepth 100000
set_option maxHeartbeats 4000000
/-! names of a term; variables as strange names -/
namespace Lw
open PySem PySem.Spec
open PyProof.Rows L2
mutual
def Tm.All (P : Str → Prop) : Tm → Prop
  | .var _ => True
  | .app n ts => P n ∧ Tm.Alls P ts
def Tm.Alls (P : Str → Prop) : List Tm → Prop
  | [] => True
  | t :: r => t.All P ∧ Tm.Alls P r
end
theorem Tm.all_var (P : Str → Prop) (i : Int) : (Tm.var i).All P := by rw [Tm.All]; trivial
theorem Tm.all_app (P : Str → Prop) (n : Str) (ts : List Tm) : (Tm.app n ts).All P ↔ P n ∧ Tm.Alls P ts := by rw [Tm.All]
theorem Tm.alls_nil (P : Str → Prop) : Tm.Alls P [] := by rw [Tm.Alls]; trivial
theorem Tm.alls_cons (P : Str → Prop) (t : Tm) (r : List Tm) : Tm.Alls P (t :: r) ↔ t.All P ∧ Tm.Alls P r := by rw [Tm.Alls]
theorem Tm.alls_iff {P : Str → Prop} : ∀ ts : List Tm, Tm.Alls P ts ↔ ∀ t ∈ ts, t.All P
  | [] => ⟨fun _ t h => (nomatch h), fun _ => Tm.alls_nil P⟩
  | t :: r => by
    rw [Tm.alls_cons, Tm.alls_iff r]
    simp
theorem Gen.names {P : Str → Prop} {zs : List (Str × Int)} {vars : List Tm} (hz : ∀ z ∈ zs, P z.1) (hv : ∀ t ∈ vars, t.All P) {d : Nat} {t : Tm} (h : Gen zs vars d t) : t.All P := by
  induction h with
  | var h => exact hv _ h
  | leaf h => rw [Tm.all_app]; exact ⟨hz _ h, Tm.alls_nil P⟩
  | app h hl hs ih => rw [Tm.all_app, Tm.alls_iff]; exact ⟨hz _ h, ih⟩
mutual
theorem all_mono {P R : Str → Prop} (h : ∀ z, P z → R z) : ∀ {t : Tm}, t.All P → t.All R
  | .var i, _ => Tm.all_var _ _
  | .app n ts, e => by
    rw [Tm.all_app] at e ⊢
    exact ⟨h _ e.1, alls_mono h e.2⟩
theorem alls_mono {P R : Str → Prop} (h : ∀ z, P z → R z) : ∀ {ts : List Tm}, Tm.Alls P ts → Tm.Alls R ts
  | [], _ => Tm.alls_nil _
  | t :: r, e => by
    rw [Tm.alls_cons] at e ⊢
    exact ⟨all_mono h e.1, alls_mono h e.2⟩
end
/-! ### a name for a variable, and back -/
mutual
def Tm.thaw (g : Str → Option Int) : Tm → Tm
  | .var i => .var i
  | .app n ts => match g n with
    | some i => .var i
    | none => .app n (Tm.thaws g ts)
def Tm.thaws (g : Str → Option Int) : List Tm → List Tm
  | [] => []
  | t :: r => t.thaw g :: Tm.thaws g r
end
theorem Tm.thaw_var (g : Str → Option Int) (i : Int) : (Tm.var i).thaw g = .var i := by rw [Tm.thaw]
theorem Tm.thaw_none {g : Str → Option Int} {n : Str} {ts : List Tm} (h : g n = none) : (Tm.app n ts).thaw g = .app n (Tm.thaws g ts) := by rw [Tm.thaw, h]
theorem Tm.thaw_some {g : Str → Option Int} {n : Str} {ts : List Tm} {i : Int} (h : g n = some i) : (Tm.app n ts).thaw g = .var i := by rw [Tm.thaw, h]
mutual
theorem Tm.thaw_ins {g : Str → Option Int} {σ : Int → Tm} : ∀ p : Tm, p.All (fun n => g n = none) → (p.ins σ).thaw g = p.ins fun i => (σ i).thaw g
  | .var i, _ => by rw [Tm.ins_var, Tm.ins_var]
  | .app n ts, h => by
    rw [Tm.all_app] at h
    rw [Tm.ins_app, Tm.ins_app, Tm.thaw_none h.1, Tm.thaws_ins ts h.2]
theorem Tm.thaws_ins {g : Str → Option Int} {σ : Int → Tm} : ∀ ps : List Tm, Tm.Alls (fun n => g n = none) ps → Tm.thaws g (ps.map (Tm.ins σ)) = ps.map (Tm.ins fun i => (σ i).thaw g)
  | [], _ => by rw [List.map_nil, Tm.thaws]; rfl
  | p :: r, h => by
    rw [Tm.alls_cons] at h
    rw [List.map_cons, Tm.thaws, Tm.thaw_ins p h.1, Tm.thaws_ins r h.2]
    rfl
end
mutual
theorem Tm.thaw_sub {g : Str → Option Int} {θ : Int → Option Tm} : ∀ t : Tm, t.All (fun n => g n = none) → (∀ i ∈ t.ints, ∃ z, θ i = some (.app z []) ∧ g z = some i) → (t.sub θ).thaw g = t
  | .var i, _, h => by
    obtain ⟨z, h1, h2⟩ := h i (by rw [Tm.ints_var]; simp)
    rw [Tm.sub_var, h1]
    exact Tm.thaw_some h2
  | .app n ts, h, hi => by
    rw [Tm.all_app] at h
    rw [Tm.ints_app] at hi
    rw [Tm.sub_app, Tm.thaw_none h.1, Tm.thaws_sub ts h.2 hi]
theorem Tm.thaws_sub {g : Str → Option Int} {θ : Int → Option Tm} : ∀ ts : List Tm, Tm.Alls (fun n => g n = none) ts → (∀ i ∈ Tm.intss ts, ∃ z, θ i = some (.app z []) ∧ g z = some i) → Tm.thaws g (Tm.subs θ ts) = ts
  | [], _, _ => by rw [Tm.subs, Tm.thaws]
  | t :: r, h, hi => by
    rw [Tm.alls_cons] at h
    rw [Tm.intss_cons] at hi
    rw [Tm.subs, Tm.thaws, Tm.thaw_sub t h.1 (fun i h => hi i (List.mem_append_left _ h)), Tm.thaws_sub r h.2 (fun i h => hi i (List.mem_append_right _ h))]
end
theorem ins_sub (p : Tm) (σ : Int → Tm) (θ : Int → Option Tm) : (p.ins σ).sub θ = p.ins fun i => (σ i).sub θ :=
  Tm.sub_sub (a := fun i => some (σ i)) (c := fun i => some ((σ i).sub θ)) (fun i => rfl) p
/-- an instance of p exactly if it is one with strange names for its variables -/
theorem frozen_iff {p t : Tm} {g : Str → Option Int} {θ : Int → Option Tm} (hp : p.All fun n => g n = none) (ht : t.All fun n => g n = none) (h : ∀ i ∈ t.ints, ∃ z, θ i = some (.app z []) ∧ g z = some i) :
    (∃ σ, p.ins σ = t) ↔ ∃ σ, p.ins σ = t.sub θ := by
  constructor
  · rintro ⟨σ, rfl⟩
    exact ⟨_, (ins_sub p σ θ).symm⟩
  · rintro ⟨σ, e⟩
    exact ⟨_, (Tm.thaw_ins p hp).symm.trans ((congrArg (Tm.thaw g) e).trans (Tm.thaw_sub t ht h))⟩
/-- each variable of V to the term that f says of its place -/
def tabT (f : Nat → Tm) (V : List Int) : Int → Option Tm := fun i => if i ∈ V then some (f (V.idxOf i)) else none
theorem tabT_nil (f : Nat → Tm) : tabT f [] = fun _ => none := funext fun i => if_neg List.not_mem_nil
theorem tabT_in {f : Nat → Tm} {V : List Int} {i : Int} (h : i ∈ V) : tabT f V i = some (f (V.idxOf i)) := if_pos h
theorem tabT_snoc {f : Nat → Tm} {L : List Int} {v : Int} (h : v ∉ L) : tabT f (L ++ [v]) = fun j => if j = v then some (f L.length) else tabT f L j := by
  funext j
  unfold tabT
  by_cases e : j = v
  · subst e
    rw [if_pos (by simp), if_pos rfl, List.idxOf_append, if_neg h]
    simp
  · rw [if_neg e]
    by_cases m : j ∈ L
    · rw [if_pos (by simp [m]), if_pos m, List.idxOf_append, if_pos m]
    · rw [if_neg (by simp [m, e]), if_neg m]
theorem tabT_some {f : Nat → Tm} {V : List Int} {i : Int} {t : Tm} (h : tabT f V i = some t) : ∃ k, k < V.length ∧ t = f k := by
  unfold tabT at h
  split at h
  · rename_i m
    exact ⟨_, List.idxOf_lt_length_iff.mpr m, (Option.some.inj h).symm⟩
  · cases h
/-! ### strange names -/
def stN (k : Nat) : Str := Str.ofString "strange" ++ Str.ofString (toString (k : Int))
theorem stN_len : ∀ k < 4, (stN k).cps.toList.length = 8 := by decide +kernel
theorem stN_txt : ∀ k < 4, TxtOk (stN k) := fun k hk => by
  have h : k = 0 ∨ k = 1 ∨ k = 2 ∨ k = 3 := by omega
  rcases h with rfl | rfl | rfl | rfl <;> exact ⟨by decide +kernel, by decide +kernel⟩
theorem stN_inj : ∀ a < 4, ∀ b < 4, stN a = stN b → a = b := by decide +kernel
def stG (V : List Int) (z : Str) : Option Int := V.find? fun i => decide (stN (V.idxOf i) = z)
theorem stG_none {V : List Int} (hV : V.length ≤ 4) {z : Str} (h : z.cps.toList.length ≠ 8) : stG V z = none := by
  unfold stG
  rw [List.find?_eq_none]
  intro i hi e
  have e := of_decide_eq_true e
  have := stN_len (V.idxOf i) (by have := List.idxOf_lt_length_iff.mpr hi; omega)
  rw [e] at this
  exact h this
theorem stG_some {V : List Int} (hV : V.length ≤ 4) {i : Int} (hi : i ∈ V) : stG V (stN (V.idxOf i)) = some i := by
  have lt : ∀ {j}, j ∈ V → V.idxOf j < 4 := fun h => by have := List.idxOf_lt_length_iff.mpr h; omega
  cases e : stG V (stN (V.idxOf i)) with
  | none =>
    unfold stG at e
    rw [List.find?_eq_none] at e
    exact absurd (decide_eq_true rfl) (e i hi)
  | some j =>
    unfold stG at e
    have h1 := List.find?_some e
    have h2 := List.mem_of_find?_eq_some e
    rw [idx_inj h2 hi (stN_inj _ (lt h2) _ (lt hi) (of_decide_eq_true h1))]
theorem odd_name {z : Str} (h : NameOk z) : z.cps.toList.length ≠ 8 := by have := h.short; omega
end Lw

set_option maxRecDepth 100000
set_option maxHeartbeats 4000000
/-! what k11's defs promise -/
namespace Lw
open PySem PySem.Spec
open PyProof.Rows L2
/-- every value that stands under an int is a good term -/
def TblN (H : Hp) (kvs : List (Key × V)) : Prop := ∀ i u, valV kvs (Sum.inl i) = some u → ∃ t, At H u t ∧ t.Nice ∧ t.depth ≤ 61
theorem TblN.nil {H : Hp} : TblN H [] := fun i u h => nomatch (show (none : Option V) = some u from h)
theorem TblN.keep {H H' : Hp} {kvs : List (Key × V)} (h : TblN H kvs) (k : KeepT H H') : TblN H' kvs := fun i u e => let ⟨t, a, b⟩ := h i u e; ⟨t, a.keep k, b⟩
theorem TblN.put {H : Hp} {kvs : List (Key × V)} (h : TblN H kvs) {i : Int} {u : V} {t : Tm} (a : At H u t) (n : t.Nice) (d : t.depth ≤ 61) : TblN H (putK kvs (Sum.inl i) u) := fun j w e => by
  rw [valV_put] at e
  by_cases c : (Sum.inl j : Key) = Sum.inl i
  · rw [if_pos c] at e
    rw [← Option.some.inj e]
    exact ⟨t, a, n, d⟩
  · rw [if_neg c] at e
    exact h j w e
/-- r may stand where tm stood -/
structure Fine (P : Str → Prop) (S : List Int) (tm r : Tm) : Prop where
  nice : r.Nice
  dep : r.depth ≤ tm.depth
  siz : r.size ≤ tm.size
  all : r.All P
  vrs : ∀ i ∈ r.ints, i ∈ S
def spBlur (P : Str → Prop) (S : List Int) (d : Nat) : Sp := fun vs H Q _ => ∃ (t sc l va : Addr) (ns : List Int) (v : V) (tm : Tm) (kvs : List (Key × V)) (is : List Int), vs = [.ref t, v, .ref l, .ref va] ∧ TapeAt H t sc ns ∧ At H v tm ∧ tm.depth ≤ d ∧ tm.depth ≤ 61 ∧ tm.size ≤ 10000 ∧ Fine P S tm tm ∧
  H l = some (.dK kvs) ∧ kvs.length + tm.size ≤ 100000 ∧ TblN H kvs ∧ H va = some (.lst (is.map V.int)) ∧ 0 < is.length ∧ is.length ≤ 1000 ∧ (∀ i ∈ is, i ∈ S ∧ 0 ≤ i ∧ i < 1000000000000) ∧
  ∀ H' v' kvs' r, Kp [t, l] H H' → TapeAt H' t sc ns → H' l = some (.dK kvs') → kvs'.length ≤ kvs.length + tm.size → TblN H' kvs' → At H' v' r → Fine P S tm r → Q v' H'
structure SmallT (u : Tm) : Prop where
  nice : u.Nice
  siz : u.size ≤ 12
  dep : u.depth ≤ 12
def spUniv : Sp := fun vs H Q _ => ∃ (t sc sy : Addr) (ns : List Int) (zs : List (Str × Int)) (many : Int), vs = [.ref t, .ref sy, .int many] ∧ TapeAt H t sc ns ∧ SymsAt H sy zs ∧ 1 ≤ zs.length ∧ zs.length ≤ 100000 ∧ 0 ≤ many ∧ many ≤ 3 ∧
  ∀ H' p ws us, Kp [t] H H' → TapeAt H' t sc ns → H p = none → H' p = some (.lst ws) → Ats H' ws us → us.length ≤ 3 → (∀ u ∈ us, SmallT u) → Q (.ref p) H'
def RowT (H : Hp) (x : V) (row : List Tm) : Prop := ∃ b vs, x = .ref b ∧ H b = some (.tup vs) ∧ Ats H vs row
theorem RowT.keepT {H H' : Hp} {v : V} {row : List Tm} (k : KeepT H H') (h : RowT H v row) : RowT H' v row := let ⟨b, vs, e, q, a⟩ := h; ⟨b, vs, e, k _ _ q, a.keep k⟩
def spChoicesT : Sp := fun vs H Q _ => ∃ (a : Addr) (us : List V) (ts : List Tm) (m : Nat), vs = [.ref a, .int m] ∧ H a = some (.lst us) ∧ Ats H us ts ∧ us.length ≤ 4 ∧ m ≤ 4 ∧
  ∀ H' p ws rows, Kp [] H H' → H p = none → H' p = some (.lst ws) → Lat RowT H' ws rows → (∀ r ∈ rows, r.length = m ∧ ∀ t ∈ r, t ∈ ts) → ws.length ≤ 256 → Q (.ref p) H'
theorem c_lenK {X : Cx} {K : PySem.W.Frag} (h : X.K = K) : CallR X (.builtin "len") (rLenN K) := h ▸ c_len
mutual
theorem Tm.depth_size : ∀ t : Tm, t.depth ≤ t.size
  | .var i => by rw [Tm.depth_var, Tm.size_var]; exact Nat.le_refl _
  | .app n ts => by
    have := Tm.depths_sizes ts
    rw [Tm.depth_app, Tm.size_app]; omega
theorem Tm.depths_sizes : ∀ ts : List Tm, Tm.depths ts ≤ Tm.sizes ts
  | [] => by rw [Tm.depths_nil, Tm.sizes_nil]; exact Nat.le_refl _
  | t :: r => by
    have h1 := Tm.depth_size t
    have h2 := Tm.depths_sizes r
    rw [Tm.depths_cons, Tm.sizes_cons]; omega
end
end Lw

set_option maxRecDepth 100000
set_option maxHeartbeats 4000000
/-! the tape, the symbols and one table: what k11's law keeps -/
namespace Lw
open PySem PySem.Spec
open PyProof.Rows L2
structure Te (H : Hp) (t sc sy : Addr) (ns : List Int) (zs : List (Str × Int)) (P : Addr) : Prop where
  tp : TapeAt H t sc ns
  sy : SymsAt H sy zs
  tg : GxR.TabG H P
structure We (B H : Hp) (t sc sy : Addr) (ns : List Int) (zs : List (Str × Int)) (P : Addr) : Prop where
  k : Kp [t, P] B H
  n : Te H t sc sy ns zs P
  b : Te B t sc sy ns zs P
section
variable {B H H' : Hp} {t sc sy : Addr} {ns : List Int} {zs : List (Str × Int)} {P : Addr}
theorem Te.nil (w : Te H t sc sy ns zs P) (k : Kp [] H H') : Te H' t sc sy ns zs P := ⟨w.tp.nil k, w.sy.keep (l := []) k (by simp) (by simp), w.tg.keep0 k⟩
theorem We.start (b : Te B t sc sy ns zs P) : We B B t sc sy ns zs P := ⟨Kp.refl _ _, b, b⟩
theorem We.re (w : We B H t sc sy ns zs P) : We H H t sc sy ns zs P := We.start w.n
theorem We.nil (w : We B H t sc sy ns zs P) (k : Kp [] H H') : We B H' t sc sy ns zs P := ⟨w.k.trans (k.mono (by simp)), w.n.nil k, w.b⟩
theorem We.tape (w : We B H t sc sy ns zs P) (k : Kp [t] H H') (T : TapeAt H' t sc ns) : We B H' t sc sy ns zs P :=
  ⟨w.k.trans (k.mono (by simp)), ⟨T, w.n.sy.tape w.n.tp k (w.n.sy.ne w.n.tp), GxR_one w.n.tg k (tape_ne w.n.tp w.n.tg).1.symm⟩, w.b⟩
theorem We.nt (w : We B H t sc sy ns zs P) : ∀ b ∈ [t, P], ∀ ys, B b ≠ some (.tup ys) := fun b hb ys => by
  rcases List.mem_cons.mp hb with z | hb
  · rw [z]; exact w.b.tp.not_tup ys
  · exact no_tupT w.b.tg b hb ys
theorem sy_tab {sy : Addr} (S : SymsAt H sy zs) (g : GxR.TabG H P) : sy ≠ P := by
  obtain ⟨rs, e, _⟩ := S.is
  exact tab_ne g e fun ps z => by cases z
theorem We.tab (w : We B H t sc sy ns zs P) (k : Kp [P] H H') (g : GxR.TabG H' P) : We B H' t sc sy ns zs P :=
  ⟨w.k.trans (k.mono (by simp)), ⟨w.n.tp.keep k (one_not' (tape_ne w.n.tp w.n.tg).1) (one_not' (tape_ne w.n.tp w.n.tg).2), w.n.sy.keep k (one_not' (sy_tab w.n.sy w.n.tg)) (no_tupT w.n.tg), g⟩, w.b⟩
/-- an object that B did not have is written; none of the tuples that count -/
theorem We.put (w : We B H t sc sy ns zs P) {p : Addr} {o : HO} (hp : B p = none) (hs : p ≠ sy) (ht : ∀ ys, H p ≠ some (.tup ys)) : We B (upd H p o) t sc sy ns zs P := by
  have kp : Kp [p] H (upd H p o) := Kp.put (by simp)
  refine ⟨fun b u hb e => ?_, ⟨w.n.tp.keep kp (one_not' (w.b.tp.t_some hp)) (one_not' (w.b.tp.s_some hp)), w.n.sy.keep kp (one_not' (Ne.symm hs)) (fun b hb => by rw [List.mem_singleton.mp hb]; exact ht), GxR_one w.n.tg kp (tab_fresh w.b.tg hp)⟩, w.b⟩
  rw [upd_ne (ne_of_none e hp)]
  exact w.k b u hb e
/-- a dict of ours is written -/
theorem We.putD (w : We B H t sc sy ns zs P) {p : Addr} {o : HO} {kvs : List (Key × V)} (hp : B p = none) (e : H p = some (.dK kvs)) : We B (upd H p o) t sc sy ns zs P :=
  w.put hp (fun z => by obtain ⟨rs, e2, _⟩ := w.n.sy.is; rw [z, e2] at e; cases e) fun ys z => by rw [e] at z; cases z
theorem We.newD (w : We B H t sc sy ns zs P) {p : Addr} {o : HO} (hp : H p = none) : We B (upd H p o) t sc sy ns zs P := w.nil (Kp.new hp)
theorem We.kT (w : We B H t sc sy ns zs P) : KeepT B H := w.k.keepT w.nt
theorem We.at' (w : We B H t sc sy ns zs P) {v : V} {tm : Tm} (a : At B v tm) : At H v tm := a.keep w.kT
theorem We.ats (w : We B H t sc sy ns zs P) {vs : List V} {ts : List Tm} (a : Ats B vs ts) : Ats H vs ts := a.keep w.kT
theorem We.tup (w : We B H t sc sy ns zs P) {a : Addr} {xs : List V} (e : B a = some (.tup xs)) : H a = some (.tup xs) := w.kT _ _ e
theorem We.cell (w : We B H t sc sy ns zs P) {a : Addr} {o : HO} (e : B a = some o) (ht : a ≠ t) (ho : ∀ ps, o ≠ .tbl ps) : H a = some o :=
  w.k _ _ (by simp [ht, tab_ne w.b.tg e ho]) e
theorem We.lst (w : We B H t sc sy ns zs P) {a : Addr} {xs : List V} (e : B a = some (.lst xs)) (ht : a ≠ t) : H a = some (.lst xs) := w.cell e ht fun ps z => by cases z
theorem dk_tape {H : Hp} (T : TapeAt H t sc ns) {a : Addr} {kvs : List (Key × V)} (e : H a = some (.dK kvs)) : a ≠ t := fun z => by
  obtain ⟨⟨_, _, _, _, e2⟩, _, _⟩ := T
  rw [z, e2] at e
  cases e
theorem We.dk (w : We B H t sc sy ns zs P) {a : Addr} {kvs : List (Key × V)} (e : B a = some (.dK kvs)) : H a = some (.dK kvs) := w.cell e (dk_tape w.b.tp e) fun ps z => by cases z
theorem We.free (w : We B H t sc sy ns zs P) {p : Addr} (hp : H p = none) : B p = none := by
  cases e : B p with
  | none => rfl
  | some o =>
    have n1 := w.n.tp.t_some hp
    have n2 := tab_fresh w.n.tg hp
    rw [w.k p o (by simp [n1.symm, n2.symm]) e] at hp
    cases hp
/-- the tape and a dict that B did not have -/
theorem We.two (w : We B H t sc sy ns zs P) {l : Addr} {kvs : List (Key × V)} (k : Kp [t, l] H H') (T : TapeAt H' t sc ns) (hl : B l = none) (e : H l = some (.dK kvs)) : We B H' t sc sy ns zs P := by
  have nl : ∀ {a xs}, H a = some (.lst xs) → a ≠ l := fun e2 z => by rw [z, e] at e2; cases e2
  have nTl : ∀ b ∈ [t, l], ∀ ys, H b ≠ some (.tup ys) := fun b hb ys => by
    rcases List.mem_cons.mp hb with z | z
    · rw [z]; exact w.n.tp.not_tup ys
    · rw [List.mem_singleton.mp z, e]; intro z; cases z
  refine ⟨fun b u hb e2 => ?_, ⟨T, ?_, ?_⟩, w.b⟩
  · refine k b u ?_ (w.k b u hb e2)
    have h1 : b ≠ l := ne_of_none e2 hl
    have h2 : b ≠ t := fun z => hb (by simp [z])
    simp [h1, h2]
  · obtain ⟨rs, e2, _⟩ := id w.n.sy.is
    exact w.n.sy.keep k (by simp [nl e2, w.n.sy.ne w.n.tp]) nTl
  · obtain ⟨ps, e2, h2⟩ := w.n.tg
    have h3 : P ≠ l := fun z => by rw [z, e] at e2; cases e2
    exact ⟨ps, k _ _ (by simp [h3, (tape_ne w.n.tp w.n.tg).1.symm]) e2, h2⟩
end
theorem stN_room : ∀ i < 4, ((i : Nat) : Int).natAbs.log2 < 1920 ∧ (Str.ofString "strange").length + (Str.ofString (toString ((i : Nat) : Int))).length ≤ 1000000 := by decide +kernel
theorem kp_refl1 {t : Addr} {H : Hp} : Kp [t] H H := Kp.refl _ _
end Lw

set_option maxRecDepth 100000
set_option maxHeartbeats 4000000
/-! drawn relations and atoms -/
namespace Lw
open PySem PySem.Spec
open PyProof.Rows L2
def spRels : Sp := fun vs H Q _ => ∃ (t sc : Addr) (ns : List Int) (many : Int), vs = [.ref t, .int many] ∧ TapeAt H t sc ns ∧ 0 ≤ many ∧ many ≤ 1000 ∧
  ∀ (H' : Hp) (p : Addr) (zs : List (Str × Int)), Kp [t] H H' → TapeAt H' t sc ns → H p = none → SymsAt H' p zs → (zs.length : Int) = many → Q (.ref p) H'
/-- an atom that may be drawn -/
def GenA (rs zs : List (Str × Int)) (vars : List Tm) (d : Nat) (a : Tm) : Prop := ∃ (z : Str) (n : Int) (ts : List Tm), a = .app z ts ∧ (z, n) ∈ rs ∧ ts.length = n.toNat ∧ ∀ u ∈ ts, Gen zs vars d u
def spAtomLe (m : Nat) : Sp := fun vs H Q _ => ∃ (d : Nat) (_ : d ≤ m) (t sc re sy va : Addr) (ns : List Int) (rs zs : List (Str × Int)) (vars : List Tm), vs = [.ref t, .ref re, .ref sy, .ref va, .int ((d : Int) + 1)] ∧ Dw H t sc sy va ns zs vars ∧ SymsAt H re rs ∧ 1 ≤ rs.length ∧ rs.length ≤ 100000 ∧ 1 ≤ zs.length ∧ zs.length ≤ 100000 ∧ vars.length ≤ 100000 ∧
  ∀ (H' : Hp) (v : V) (tm : Tm), Kp [t] H H' → TapeAt H' t sc ns → At H' v tm → GenA rs zs vars d tm → Q v H'
theorem GenA.facts {rs zs : List (Str × Int)} {vars : List Tm} {d b m : Nat} {a : Tm} (g : GenA rs zs vars d a) (hr : ∀ z ∈ rs, NameOk z.1 ∧ 0 ≤ z.2 ∧ z.2 ≤ 3) (h : ∀ {u : Tm}, Gen zs vars d u → u.Nice ∧ u.depth ≤ b ∧ u.size ≤ m) : a.Nice ∧ a.depth ≤ b + 1 ∧ a.size ≤ 1 + 3 * m := by
  obtain ⟨z, n, ts, rfl, hz, hl, hs⟩ := g
  have h1 := Tm.depths_le fun u hu => (h (hs u hu)).2.1
  have h2 := Tm.sizes_le fun u hu => (h (hs u hu)).2.2
  have h3 : ts.length ≤ 3 := by have := (hr _ hz).2.2; simp only at this; omega
  have h4 : ts.length * m ≤ 3 * m := Nat.mul_le_mul_right _ h3
  refine ⟨?_, ?_, ?_⟩
  · rw [Tm.nice_app, Tm.nices_iff]; exact ⟨txt_of_name (hr _ hz).1, fun u hu => (h (hs u hu)).1⟩
  · rw [Tm.depth_app]; omega
  · rw [Tm.size_app]; omega
end Lw

set_option maxRecDepth 100000
set_option maxHeartbeats 4000000
/-! drawn rules -/
namespace Lw
open PySem PySem.Spec
open PyProof.Rows L2
def intsTo (n : Nat) : List Int := (List.range n).map fun (k : Nat) => (k : Int)
theorem intsTo_succ (n : Nat) : intsTo (n + 1) = intsTo n ++ [(n : Int)] := by unfold intsTo; rw [List.range_succ, List.map_append]; rfl
theorem len_intsTo (n : Nat) : (intsTo n).length = n := by unfold intsTo; rw [List.length_map, List.length_range]
/-- an equation or an atom that may be drawn, as a premise -/
def AtomOk (bs zs : List (Str × Int)) (vars : List Tm) (d : Nat) (a : Tm) : Prop := (∃ e, e ≤ d ∧ GenA bs zs vars e a) ∨ ∃ x y, a = .app "=" [x, y] ∧ (∃ e, e ≤ d ∧ Gen zs vars e x) ∧ ∃ e, e ≤ d ∧ Gen zs vars e y
def spRuleOver : Sp := fun vs H Q _ => ∃ (t sc hd bd sy : Addr) (ns : List Int) (hs bs zs : List (Str × Int)) (name : Str) (many prem : Nat), vs = [.ref t, .str name, .ref hd, .ref bd, .ref sy, .int many, .int prem] ∧ TapeAt H t sc ns ∧ SymsAt H hd hs ∧ SymsAt H bd bs ∧ SymsAt H sy zs ∧
  (1 ≤ hs.length ∧ hs.length ≤ 1000) ∧ (1 ≤ bs.length ∧ bs.length ≤ 1000) ∧ (1 ≤ zs.length ∧ zs.length ≤ 1000) ∧ many ≤ 100 ∧ prem ≤ 10 ∧
  ∀ H' p r (v0 : V) (ws : List V) (c c0 : Tm) (ps ps0 : List Tm), Kp [t] H H' → TapeAt H' t sc ns → H p = none → H' p = some (.tup [.str name, .ref r, v0]) → H' r = some (.tup ws) → At H' v0 c → Ats H' ws ps → c :: ps = numd (c0 :: ps0) →
    GenA hs zs ((intsTo many).map Tm.var) 1 c0 → (∀ a ∈ ps0, AtomOk bs zs ((intsTo many).map Tm.var) 1 a) → ps0.length = prem → Q (.ref p) H'
structure Tw (B H : Hp) (t sc : Addr) (ns : List Int) : Prop where
  k : Kp [t] B H
  n : TapeAt H t sc ns
  b : TapeAt B t sc ns
section
variable {B H H' : Hp} {t sc : Addr} {ns : List Int}
theorem Tw.start (b : TapeAt B t sc ns) : Tw B B t sc ns := ⟨Kp.refl _ _, b, b⟩
theorem Tw.nil (w : Tw B H t sc ns) (k : Kp [] H H') : Tw B H' t sc ns := ⟨w.k.trans (k.mono (by simp)), w.n.nil k, w.b⟩
theorem Tw.tape (w : Tw B H t sc ns) (k : Kp [t] H H') (T : TapeAt H' t sc ns) : Tw B H' t sc ns := ⟨w.k.trans k, T, w.b⟩
theorem Tw.kT (w : Tw B H t sc ns) : KeepT B H := w.b.keepT w.k
theorem Tw.ats (w : Tw B H t sc ns) {vs : List V} {ts : List Tm} (a : Ats B vs ts) : Ats H vs ts := a.keep w.kT
theorem Tw.at' (w : Tw B H t sc ns) {v : V} {tm : Tm} (a : At B v tm) : At H v tm := a.keep w.kT
theorem Tw.syms (w : Tw B H t sc ns) {p : Addr} {zs : List (Str × Int)} (S : SymsAt B p zs) : SymsAt H p zs := S.tape w.b w.k (S.ne w.b)
theorem Tw.vars (w : Tw B H t sc ns) {p : Addr} {vars : List Tm} (S : VarsAt B p vars) : VarsAt H p vars := S.tape w.b w.k (S.ne w.b)
theorem Tw.put (w : Tw B H t sc ns) {p : Addr} {o : HO} (hp : B p = none) : Tw B (upd H p o) t sc ns := by
  have kp : Kp [p] H (upd H p o) := Kp.put (by simp)
  refine ⟨fun b u hb e => ?_, w.n.keep kp (one_not' (w.b.t_some hp)) (one_not' (w.b.s_some hp)), w.b⟩
  rw [upd_ne (ne_of_none e hp)]
  exact w.k b u hb e
theorem Tw.free (w : Tw B H t sc ns) {p : Addr} (hp : H p = none) : B p = none := by
  cases e : B p with
  | none => rfl
  | some o => rw [w.k p o (one_not' (Ne.symm (w.n.t_some hp))) e] at hp; cases hp
theorem Tw.re (w : Tw B H t sc ns) : Tw H H t sc ns := Tw.start w.n
end
end Lw
namespace Lw
open PySem PySem.Spec
open PyProof.Rows L2
def spRule : Sp := fun vs H Q _ => ∃ (t sc bd sy : Addr) (ns : List Int) (bs zs : List (Str × Int)) (name : Str) (many prem : Nat), vs = [.ref t, .str name, .ref bd, .ref sy, .int many, .int prem] ∧ TapeAt H t sc ns ∧ SymsAt H bd bs ∧ SymsAt H sy zs ∧
  (1 ≤ bs.length ∧ bs.length ≤ 1000) ∧ (1 ≤ zs.length ∧ zs.length ≤ 1000) ∧ many ≤ 100 ∧ prem ≤ 10 ∧
  ∀ H' p r (v0 : V) (ws : List V) (c c0 : Tm) (ps ps0 : List Tm), Kp [t] H H' → TapeAt H' t sc ns → H p = none → H' p = some (.tup [.str name, .ref r, v0]) → H' r = some (.tup ws) → At H' v0 c → Ats H' ws ps → c :: ps = numd (c0 :: ps0) →
    GenA bs zs ((intsTo many).map Tm.var) 1 c0 → (∀ a ∈ ps0, AtomOk bs zs ((intsTo many).map Tm.var) 1 a) → ps0.length = prem → Q (.ref p) H'
/-- [.. atoms or equations .. for k in range(many)] -/
def spAtomsOver : Sp := fun vs H Q _ => ∃ (t sc bd sy va : Addr) (ns : List Int) (bs zs : List (Str × Int)) (vars : List Tm) (many : Nat), vs = [.ref t, .ref bd, .ref sy, .ref va, .int many] ∧ TapeAt H t sc ns ∧ SymsAt H bd bs ∧ SymsAt H sy zs ∧ VarsAt H va vars ∧
  (1 ≤ bs.length ∧ bs.length ≤ 1000) ∧ (1 ≤ zs.length ∧ zs.length ≤ 1000) ∧ vars.length ≤ 100000 ∧ many ≤ 1000 ∧
  ∀ H' p ws as, Kp [t] H H' → TapeAt H' t sc ns → H p = none → H' p = some (.lst ws) → Ats H' ws as → as.length = many → (∀ a ∈ as, AtomOk bs zs vars 1 a) → Q (.ref p) H'
end Lw

set_option maxRecDepth 100000
set_option maxHeartbeats 4000000
/-! all(..), any(..) of a generator expression whose element may do anything: it stops at the first item that settles it -/
namespace Lw
open PySem PySem.Spec PyProof.Rows L2 GenW
/-- while it sleeps all that stands is kept -/
structure SlB (s s' : Shared) : Prop where
  os : s'.os = s.os
  bare : AllBare s'.gens
  keep : ∀ b o, s.heap.get? b = some o → s'.heap.get? b = some o
/-- the turns: e: what comes of it when no item settles it -/
def GaW (J : It) (te : TE) (ws : List (Option V)) (e : Bool) (Qd : Bool → Hp → Prop) (W : Nat → Nat → Hp → Prop) : Prop := ∀ m i H, W m i H →
  (J.stop i H ∧ Qd e H) ∨ (J.go i H ∧ ∃ Nx : Hp → Prop, (∀ H', Nx H' → ∃ m', m' < m ∧ W m' (i + 1) H') ∧ ∀ y H', J.yld i H y H' → te (some y :: ws) H' fun z H2 => ∃ b, z = .bl b ∧ (b = e → Nx H2) ∧ (b ≠ e → Qd (!e) H2))
def GaEnd (X : Cx) (e : Bool) (Qd : Bool → Hp → Prop) : GenEnd := fun _ _ r s => r = .ok .next ∧ ∃ σ H, Inv X [] σ H s ∧ Qd e H
def GaY (X : Cx) (e : Bool) (Qd : Bool → Hp → Prop) : Protocol := fun _ _ v s kap => ∃ b ip σ H, v = .bool b ∧ Inv X ip σ H s ∧ (b = e → ∀ s', SlB s s' → kap (.send .none) s') ∧ (b ≠ e → Qd (!e) H)
section
variable {X : Cx} {N fr : List Str} {ce : Env} {A : Around} {sc : Shared} {H0 : Hp} {fp : List Addr} {pn : List (Addr × Obj)} {elt iter : Expr} {x : Str} {px pos : Pos} {scope : Scope} {it : Addr} {tn : Nat → Heap → Prop} {J : It} {te : TE} {e : Bool}
theorem seg_gaLoop (hN : (x :: fr).Nodup) (hxl : ce.scope.names.lookup x = some .local) (hco : ce.scope.isCoroutine = false) (T : Turn X.prog X.w X.K (.Name x px) J fp it tn) (he : PE (gxc X (x :: fr) ce A sc H0 fp pn) elt te)
    (hpf : ∀ p ∈ pn, p.1 ∉ fp) {ws : List (Option V)} {Qd : Bool → Hp → Prop} {W : Nat → Nat → Hp → Prop} (hW : GaW J te ws e Qd W) :
    ∀ (m i n : Nat) (s₀ s : Shared) (σ1 : Option V) (H : Hp), W m i H → m < n → Inv (gxc X (x :: fr) ce A sc H0 fp pn) [] (σ1 :: ws) H s → tn i s.heap → (∀ b ∈ fp, H b = none) →
      Seg (model X.prog X.w) A (GaEnd (gxc X (x :: fr) ce A sc H0 fp pn) e Qd) (GaY (gxc X (x :: fr) ce A sc H0 fp pn) e Qd) n s₀ (.compLoop (gxE elt (.Name x px) iter scope pos) 0 (.ref it) .none ce) ((model X.prog X.w).den (.compLoop (gxE elt (.Name x px) iter scope pos) 0 (.ref it) .none ce)) [] s := by
  intro m
  induction m using Nat.strongRecOn with
  | ind m ih =>
  intro i n s₀ s σ1 H w hn I hst hfn
  have stat : ∀ {σ' : L2.St} {H' : Hp} {s' : Shared}, Inv (gxc X (x :: fr) ce A sc H0 fp pn) [] σ' H' s' → (∀ b ∈ fp, H' b = none) → ∀ b ∈ fp, FpOk (gxc X (x :: fr) ce A sc H0 fp pn) [] H' b := fun {σ' H' s'} I' hn b hb =>
    ⟨hn b hb, (I'.ok.exf b hb).1, I'.ok.exfs b hb, .inl hb, fun x c e => (I'.ok.exf b hb).2 x c e, fun p hp z => by
      rcases List.mem_append.mp hp with hp | hp
      · exact hpf p hp (z ▸ hb)
      · cases hp⟩
  show Seg _ A _ _ _ s₀ _ ((compTurn (gxE elt (.Name x px) iter scope pos) 0 (.ref it) .none ce).onRaise (leaving ce)) [] s
  rw [compTurn_gen, Sem.onRaise_eq_wrap]
  refine seg_bind_wrap (wpAny_standAt ?_)
  rcases hW m i H w with ⟨stop, q⟩ | ⟨go, Nx, hNx, step⟩
  · refine seg_bind_wrap ?_
    rw [over_gxl]
    have td := T.done (gxc X (x :: fr) ce A sc H0 fp pn) rfl rfl rfl rfl i [] s _ H (fun _ _ => False) I (stat I hfn) hst stop
    refine wpAny_mono td (fun rr s6 ⟨hr, I6⟩ => ?_) (fun _ _ z => z.elim)
    subst hr
    exact seg_end (.ok .next) ⟨rfl, _, H, I6, q⟩
  · obtain ⟨n, rfl⟩ : ∃ k, n = k + 1 := ⟨n - 1, by omega⟩
    refine seg_bind_wrap ?_
    rw [over_gxl]
    have ti := T.item (gxc X (x :: fr) ce A sc H0 fp pn) rfl rfl rfl rfl i [] s _ H (fun _ _ => False) I (stat I hfn) hst go
    refine wpAny_mono ti (fun rr s6 ⟨u, hr, h6⟩ => ?_) (fun _ _ z => z.elim)
    subst hr
    refine seg_bind_wrap ?_
    rw [over_gxl]
    refine wpAny_mono h6 (fun _ s7 ⟨y, H7, I7, r7, y7, st7, n7⟩ => ?_) (fun _ _ z => z.elim)
    have I7' := I7.pinned (stat I7 n7) (T.obj _ _ st7)
    refine seg_bind_wrap ?_
    rw [over_gxl]
    have pg : PG (gxc X (x :: fr) ce A sc H0 fp pn) (.Name x px) (gName 0) := pg_name (i := 0) hN rfl (.inl hxl) (.inr hxl)
    refine wpAny_mono (pg.run _ s7 _ H7 y u (fun σ' H' => σ' = some y :: ws ∧ H' = H7) I7' r7 ⟨rfl, rfl⟩) (fun _ s8 ⟨σ8, H8, I8, e1, e2⟩ => ?_) (fun _ _ z => False.elim z)
    subst e1 e2
    refine seg_bind_wrap ?_
    refine wpAny_of_eq (a := true) (by first | rfl | simp only [List.forIn_nil]) ?_
    simp only [if_true]
    have hy : ∀ v, yieldOut ce v = yieldValue v := fun v => by simp only [yieldOut, hco, Bool.false_eq_true, if_false]
    simp only [hy]
    rw [Sem.bind_eq_wrap', Sem.bind_eq_wrap', Sem.wrap_wrap, Sem.wrap_wrap]
    refine seg_wrap ?_
    rw [over_gxl]
    refine wpAny_mono (he.run _ s8 _ H8 _ I8 (step y H8 y7)) (fun z s9 ⟨zv, H9, I9, r9, b, ez, qc, qs⟩ => ?_) (fun _ _ z => False.elim z)
    subst ez
    have ez : z = .bool b := r9
    refine seg_at (seg_yield rfl rfl rfl ⟨b, _, _, H9, ez, I9, fun eb s'' sl => ?_, qs⟩)
    have G2 := I9.call' (ch := []) sl.os (Un.kept sl.keep) (I9.hok.kept sl.keep) sl.bare fun b z => by simp at z
    obtain ⟨m', hm, w'⟩ := hNx _ (qc eb)
    have fp2 : ∀ b ∈ fp, (∀ o, s7.heap.get? b = some o → s''.heap.get? b = some o) ∧ H9 b = none := fun b hb => by
      obtain ⟨o, eo, _⟩ := T.obj _ _ st7 b hb
      have pin := G2.pin (b, o) (List.mem_append_right _ (mem_pinsAt hb eo))
      refine ⟨fun o' e => ?_, pin.2.1⟩
      rw [eo] at e
      cases e
      exact pin.1
    have G3 : Inv (gxc X (x :: fr) ce A sc H0 fp pn) [] (some y :: ws) H9 s'' := G2.pins_of fun p hp => by cases hp
    exact seg_again rfl (ih m' hm (i + 1) n s'' s'' _ H9 w' (by omega) G3 (T.keep _ _ _ st7 fun b hb o e => (fp2 b hb).1 o e) fun b hb => (fp2 b hb).2)
theorem seg_gaStart (hN : (x :: fr).Nodup) (hxl : ce.scope.names.lookup x = some .local) (hco : ce.scope.isCoroutine = false) (T : Turn X.prog X.w X.K (.Name x px) J fp it tn) (he : PE (gxc X (x :: fr) ce A sc H0 fp pn) elt te)
    (hpf : ∀ p ∈ pn, p.1 ∉ fp) {ws : List (Option V)} {Qd : Bool → Hp → Prop} {W : Nat → Nat → Hp → Prop} (hW : GaW J te ws e Qd W)
    {m n : Nat} {s₀ s : Shared} {σ1 : Option V} {H : Hp} (w : W m 0 H) (hn : m < n) (hI : Inv (gxc X (x :: fr) ce A sc H0 fp pn) [] (σ1 :: ws) H s) (hst : tn 0 s.heap) (hfn : ∀ b ∈ fp, H b = none) :
      Seg (model X.prog X.w) A (GaEnd (gxc X (x :: fr) ce A sc H0 fp pn) e Qd) (GaY (gxc X (x :: fr) ce A sc H0 fp pn) e Qd) n s₀ (.compStart (gxE elt (.Name x px) iter scope pos) 0 (.ref it) .none ce) ((model X.prog X.w).den (.compStart (gxE elt (.Name x px) iter scope pos) 0 (.ref it) .none ce)) [] s := by
  have loop := seg_gaLoop (iter := iter) (px := px) (scope := scope) (pos := pos) hN hxl hco T he hpf hW m 0 n s₀ s σ1 H w hn hI hst hfn
  show Seg _ A _ _ _ s₀ _ ((compStart (gxE elt (.Name x px) iter scope pos) 0 (.ref it) .none ce).onRaise (leaving ce)) [] s
  unfold compStart
  rw [Sem.onRaise_eq_wrap]
  show Seg _ A _ _ _ s₀ _ ((ask >>= _).wrap _ _ _ _) [] s
  refine seg_bind_wrap (wpAny_askSetting ?_)
  split
  · exact seg_again rfl loop
  · refine seg_bind_wrap (wpAny_rule ?_); show Seg _ A _ _ _ s₀ _ ((standAt iter.pos >>= _).wrap _ _ _ _) [] s; exact seg_bind_wrap (wpAny_standAt (seg_bind_wrap (T.self _ 0 s _ _ hst (seg_again rfl loop))))
end
/-! ### the generator is made -/
def RB (P : Program) (w : World) (outer : List Env) (H : Hp) (s : Shared) (ex : List Addr) (e : Bool) (Q : Bool → Hp → Prop) : GenEnd := fun _ _ r s1 =>
  ((r = .ok (.ret .none) ∨ r = .ok .next) ∧ ∃ H', s1.os = s.os ∧ AllBare s1.gens ∧ Un (frs outer) ex H H' s.heap s1.heap ∧ HOk P w H' s1.heap ∧ Q e H') ∨ ∃ v, r = .error v ∧ False
def YB (P : Program) (w : World) (outer : List Env) (H : Hp) (s : Shared) (ex : List Addr) (a : Addr) (g : Nat) (e : Bool) (Q : Bool → Hp → Prop) : Protocol := fun _ _ v s1 kap =>
  ∃ (b : Bool) (H' : Hp), v = .bool b ∧ s1.os = s.os ∧ AllBare s1.gens ∧ s1.heap.NoLimit ∧ s1.heap.IsGen a g ∧ Un (frs outer) ex H H' s.heap s1.heap ∧ HOk P w H' s1.heap ∧ (b = e → ∀ s', SlB s1 s' → kap (.send .none) s') ∧ (b ≠ e → Q (!e) H')
def GMadeB (P : Program) (w : World) (k : Nat) (outer : List Env) (H : Hp) (s : Shared) (ex : List Addr) (e : Bool) (Q : Bool → Hp → Prop) (u : Value) (s' : Shared) : Prop :=
  ∃ (a : Addr) (g : Nat) (c : Code) (m : Nat), u = .ref a ∧ s.heap.objs.size ≤ a ∧ a < s'.heap.objs.size ∧ s'.heap.IsGen a g ∧ s'.gens[g]? = some (.fresh c) ∧ s'.os = s.os ∧ AllBare s'.gens ∧ s'.heap.NoLimit ∧ (∀ b o, s.heap.get? b = some o → s'.heap.get? b = some o) ∧
    ∀ (A : Around) (s2 : Shared), RoomG k A → A.frames = some outer → (∀ b o, s'.heap.get? b = some o → s2.heap.get? b = some o) → s2.os = s.os → AllBare s2.gens →
      Seg (model P w) A (RB P w outer H s ex e Q) (YB P w outer H s ex a g e Q) m s2 c ((model P w).den c) [] s2
section
variable {X : Cx} {fr : List Str} {elt iter : Expr} {x : Str} {px pos : Pos} {scope : Scope} {te : TE} {wi : TI} {k : Nat} {js : List Nat} {c P : Addr} {e : Bool}
def GaB (J : It) (te : TE) (ws : List (Option V)) (e : Bool) (H : Hp) (cont : Bool → Hp → Prop) : Prop := ∃ W : Nat → Nat → Hp → Prop, (∃ m, W m 0 H) ∧ GaW J te ws e cont W
abbrev TGa := L2.St → Hp → (Bool → Hp → Prop) → Prop
def tGa (P : Addr) (js : List Nat) (wi : TI) (te : TE) (e : Bool) : TGa := fun σ H cont => wi σ H fun J H1 => GxR.TabG H1 P ∧ ∀ H2, GxR.Tabbed P H1 H2 → GaB J te (js.map (NdefX.slotAt σ)) e H2 cont
theorem ga_run (hh : X.A.handled = none) (hroom : X.A.depth < recursionLimit) (TB : GxR.TabB X.base X.mg c P) (hcode : X.env.code = .ref c) (G : GxScope x fr X.env.scope scope) (hjs : js.map (fun j => X.N[j]?) = fr.map some) (hi : PI X (.Name x px) iter wi)
    (he : ∀ (C : Addr) (code : Value) (A : Around) (sc : Shared) (H0 : Hp) (fp : List Addr) (pn : List (Addr × Obj)), RoomG k (A.deeper (gxEnv X scope C code)) → PE (gxc X (x :: fr) (gxEnv X scope C code) A sc H0 fp pn) elt te)
    (hs : ∀ v, genFold iter X.env v = pure v) {pins : List (Addr × Obj)} {σ : L2.St} {H : Hp} {s : Shared} {cont : Bool → Hp → Prop} (I : Inv X pins σ H s) (h : tGa P js wi te e σ H cont) :
    wpAny (model X.prog X.w) X.A (eval (gxE elt (.Name x px) iter scope pos) X.env) (fun u s' => ∃ H1 sc ex, Inv X pins σ H1 sc ∧ ExOk X pins ex ∧ GMadeB X.prog X.w (k + 1) X.stack H1 sc ex e cont u s') X.xe s := by
  have hfree : ∀ y ∈ scope.names, y.2 = .free → ∃ c, X.env.cells.lookup y.1 = some c := fun y hy e => (G.made y hy e).elim (fun z => I.ok.has _ (.inl z)) fun z => I.ok.has _ (.inr z)
  refine wpAny_GeneratorExp_make G.co (closure_ok hfree) G.cell G.dot G.kind hroom ?_ hs
  refine thn (hi.run pins s σ H _ I h) fun xv s1 hx => thn hx fun itv s2 h2 => ?_
  obtain ⟨it, fp, tn, J, H2, ei, I2, T, st2, f2, ⟨ps, hP, ht⟩, q⟩ := h2
  subst ei
  have cd : PySem.W.CodeHd s2.heap c P := TB.code.keeps I2.bk
  have hPs : s2.heap.get? P = some { cls := .none, data := .fields ps } := I2.hok P _ hP
  have cont1 : ∀ (code : Value) (h3 : Heap) (tk : Nat) (ps' : Array Value), Heap.ExtBut P s2.heap h3 → s2.heap.objs.size ≤ h3.objs.size → h3.get? P = some { cls := .none, data := .fields ps' } → (∃ more, ps' = ps ++ more) → TriplesOk ps'.toList →
      wpAny (model X.prog X.w) X.A (builtinsFor X.env.globals X.env.builtins) (fun bi s₄ => ∀ h', h'.Ns s₄.heap.objs.size (fun y => if y = ".0" then some (Value.ref it) else none) → Heap.SameBut s₄.heap.objs.size (s₄.heap.push { cls := .type "frame", data := .dict #[] }) h' →
          ∃ H1 sc ex, Inv X pins σ H1 sc ∧ ExOk X pins ex ∧ GMadeB X.prog X.w (k + 1) X.stack H1 sc ex e cont (.ref h'.objs.size) { s₄ with
            gens := s₄.gens.push (.fresh (.compStart (gxE elt (.Name x px) iter scope pos) 0 (.ref it) .none (genEnv scope (cloFrom X.env.cells scope.names []) s₄.heap.objs.size code bi X.env))),
            toks := s₄.toks + 1 + 1 + 1,
            heap := h'.push { cls := .type "generator", data := .fields #[.int s₄.gens.size 0, .str "<genexpr>" (s₄.toks + 1), .str (X.env.qual ++ "<genexpr>") (s₄.toks + 1 + 1)] } }) X.xe { s2 with heap := h3, toks := tk } := by
    intro code h3 tk ps' hx hsz hP3 hmore ht3
    obtain ⟨bm, ob, e1, e2, e3, e4, e5, e6, e7, e8⟩ := TB.bm
    refine wpAny_builtinsFor (m := X.mg) (by rw [I2.ok.glob]; exact (I2.mod.glob.keeps I2.bk).extBut hx TB.gP) e1 e2 (hx _ _ e4 (I2.bk _ _ e5)) e6 e7 e8 ?_
    obtain ⟨more, em⟩ := hmore
    intro h' hns hsb
    have I3 := GxR.inv_tab (more := more) (h' := h3) (g' := s2.gens) (d' := s2.drawn) (t' := tk) I2 hP (fun b u hb e => hx b u hb e) (by rw [← em]; exact hP3) I2.bare
    have tb : GxR.Tabbed P H2 (upd H2 P (.tbl (ps ++ more))) := ⟨⟨ps ++ more, upd_same, by rw [← em]; exact ht3⟩, fun b hb => upd_ne hb⟩
    obtain ⟨W, ⟨m, w0⟩, hW⟩ := q _ tb
    have nP : ∀ b, H2 b = none → b ≠ P := fun b e z => by rw [z, hP] at e; cases e
    generalize (upd H2 P (.tbl (ps ++ more))) = H3 at I3 tb w0
    have f3 : ∀ b ∈ fp, FpOk X pins H3 b ∧ b < h3.objs.size := fun b hb => by
      obtain ⟨o, eo, _⟩ := T.obj _ _ st2 b hb
      exact ⟨⟨(tb.2 b (nP b (f2 b hb).1)).trans (f2 b hb).1, (f2 b hb).2⟩, Nat.lt_of_lt_of_le (Heap.lt_size eo) hsz⟩
    have st3 : tn 0 h3 := T.keep _ _ _ st2 fun b hb o e => hx b o (nP b (f2 b hb).1) e
    have sz : h'.objs.size = h3.objs.size + 1 := by rw [hsb.1, Heap.size_push]
    have kp1 : ∀ b o, h3.get? b = some o → h'.get? b = some o := fun b o e => hsb.extBut b o (Nat.ne_of_lt (Heap.lt_size e)) (Heap.get?_push_of_some _ e)
    generalize hgo : ({ cls := .type "generator", data := .fields #[.int ({ s2 with heap := h3, toks := tk } : Shared).gens.size 0, .str "<genexpr>" (tk + 1), .str (X.env.qual ++ "<genexpr>") (tk + 1 + 1)] } : Obj) = go
    have hgc : go.cls = .type "generator" := by rw [← hgo]
    have hgd0 : ∃ nm qn, go.data = .fields #[.int s2.gens.size 0, nm, qn] := ⟨_, _, by rw [← hgo]⟩
    have hgs : go.slots = #[] := by rw [← hgo]
    have hgf : ∀ h : Heap, (h.push go).get? h.objs.size = some go := fun h => by rw [← hgo]; exact Heap.get?_push_size _ rfl
    have hgd : ∀ v, go.data ≠ .cell v := fun v z => by obtain ⟨_, _, z2⟩ := hgd0; rw [z2] at z; cases z
    have kp2 : ∀ b o, h3.get? b = some o → (h'.push go).get? b = some o := fun b o e => Heap.get?_push_of_some _ (kp1 b o e)
    have hgen : ∀ h : Heap, h.get? h'.objs.size = some go → h.IsGen h'.objs.size s2.gens.size := fun h e => by obtain ⟨nm, qn, z⟩ := hgd0; exact ⟨go, nm, qn, e, hgc, z, hgs⟩
    refine ⟨H3, { s2 with heap := h3, toks := tk }, fp, I3, fun b hb => ⟨(f3 b hb).1.2.2.2.1, (f3 b hb).1.2.1, (f3 b hb).1.2.2.2.2.1, (f3 b hb).1.2.2.2.2.2⟩, h'.objs.size, s2.gens.size, _, m + 1, rfl, ?_, ?_, hgen _ (hgf _), Array.getElem?_push_size .., rfl, AllBare.push I2.bare rfl, I3.nolimit.keeps kp2, kp2, ?_⟩
    · show h3.objs.size ≤ h'.objs.size
      omega
    · show h'.objs.size < (h'.push go).objs.size
      rw [Heap.size_push]; exact Nat.lt_succ_self _
    intro A s5 hrA hfrA hk5 hos hba
    have kp5 : ∀ b o, h3.get? b = some o → s5.heap.get? b = some o := fun b o e => hk5 b o (kp2 b o e)
    have hga : s5.heap.get? h'.objs.size = some go := hk5 _ _ (hgf _)
    have hns5 : s5.heap.Ns h3.objs.size (fun y => if y = ".0" then some (Value.ref it) else none) := hns.keeps fun b o e => hk5 b o (Heap.get?_push_of_some _ e)
    have I4 := inv_startGx (X := X) (fp := fp) (pn := [(h'.objs.size, go)]) (A := A) (s2 := s5) I3 G hjs hrA.room.hd hfrA f3 code rfl kp5 hns5 hos hba (fun p hp => by
      rw [List.mem_singleton.mp hp]
      exact ⟨hga, by show h3.objs.size < h'.objs.size; omega, hgd⟩)
    refine seg_imp (R := GaEnd (gxc X (x :: fr) (gxEnv X scope h3.objs.size code) A { s2 with heap := h3, toks := tk } H3 fp [(h'.objs.size, go)]) e cont) (Y := GaY (gxc X (x :: fr) (gxEnv X scope h3.objs.size code) A { s2 with heap := h3, toks := tk } H3 fp [(h'.objs.size, go)]) e cont) (fun n s₀ r s1' hR => ?_) (fun n s₀ v s1' kap kap' hkk hY => ?_) (m + 1) ?_
    · obtain ⟨rfl, σ', H', J, hQ⟩ := hR
      exact .inl ⟨.inr rfl, H', J.os, J.bare, J.base, J.hok, hQ⟩
    · obtain ⟨b, ip, σ', H', hv, J, h1, h2⟩ := hY
      have hg : s1'.heap.IsGen h'.objs.size s2.gens.size := hgen _ (J.pin (h'.objs.size, go) (List.mem_append_left _ (List.mem_singleton.mpr rfl))).1
      exact ⟨b, H', hv, J.os, J.bare, J.nolimit, hg, J.base, J.hok, fun eb s' z => hkk _ _ (h1 eb s' z), h2⟩
    · refine seg_gaStart (X := X) G.nd G.loc G.co T (he _ _ _ _ _ _ _ (hrA.deeper _)) (fun p hp z => ?_) hW w0 (Nat.lt_succ_self _) I4 (T.keep _ _ _ st3 fun b _ o e => kp5 b o e) (fun b hb => (f3 b hb).1.1)
      rw [List.mem_singleton.mp hp] at z
      exact absurd (Nat.lt_trans (f3 _ z).2 (show h3.objs.size < h'.objs.size by omega)) (Nat.lt_irrefl _)
  refine ⟨I2.nolimit, ?_⟩
  cases hf : codeAmong pos ps.toList with
  | none =>
    refine wpAny_genexprCodeX hcode (cd.code hPs ht) (cd.tab hPs) hf fun c' h' tk hx hge hlt hco' _ htab' _ => ?_
    obtain ⟨o1, vs, f1, tf, fl, tg, inF, tx, tt, op, _, _, _, _, _, _, _, _, _, htr, _⟩ := hco'
    exact cont1 _ h' tk _ hx (Nat.le_trans hge (Nat.le_of_lt hlt)) htab'.2 ⟨_, rfl⟩ htr
  | some cv =>
    refine wpAny_genexprCode_hit hcode (cd.code hPs ht) hf ?_
    exact cont1 cv s2.heap s2.toks ps (Heap.ExtBut.refl _ _) (Nat.le_refl _) hPs ⟨#[], by simp⟩ ht
end
/-! ### it is asked -/
section
variable {P : Program} {w : World} {outer : List Env} {H : Hp} {sc : Shared} {ex : List Addr} {Q : Bool → Hp → Prop} {A : Around} {R : Result → Shared → Prop} {a : Addr} {g : Nat}
theorem drain_all (hh : A.handled = none) (hd : A.depth < recursionLimit)
    (hend : ∀ (s' : Shared) b H', s'.os = sc.os → AllBare s'.gens → Un (frs outer) ex H H' sc.heap s'.heap → HOk P w H' s'.heap → Q b H' → R (.ok (.ret (.bool b))) s') :
    ∀ (m : Nat) (s : Shared), s.heap.IsGen a g → s.heap.NoLimit → (∃ gs, s.gens[g]? = some gs ∧ gs.Goes (model P w) A.in1.in1 (RB P w outer H sc ex true Q) (YB P w outer H sc ex a g true Q) m (.send .none) (s.setGen g .running)) →
      codeAny (model P w) A (.builtin "all.loop" ⟨[.ref a], []⟩) R s := by
  intro m
  induction m with
  | zero =>
    intro s hg hl ⟨gs, hgs, hgo⟩
    refine codeAny_builtin F.entry_all_loop ?_
    rw [Around.under_plainId F.plain_all_loop _]
    show wpAny _ A.in1 (pyNext (.ref a) >>= _) _ _ s
    refine wpAny_bind (next_genG (A := A.in1) (Er := fun _ _ => False) (F := fun _ _ s1 => ∃ H', s1.os = sc.os ∧ AllBare s1.gens ∧ Un (frs outer) ex H H' sc.heap s1.heap ∧ HOk P w H' s1.heap ∧ Q true H') hh hl hd hg hgs hgo (fun v s₁ gs' hbare hv => ?_) (fun s₁ hp h' hk => ?_) fun e s₁ he => he.elim)
    · obtain ⟨b, H', rfl, os1, hb1, _, _, un, hok, hc, hq⟩ := hv
      refine wpAny_bind (wpAny_holding (wpAny_truthy_bool ?_))
      refine wpAny_bind (wpAny_letGo ?_)
      cases b with
      | true => exact (hc rfl _ ⟨rfl, hb1, fun _ _ e => e⟩ : False).elim
      | false =>
        simp only [Bool.false_eq_true, if_false]
        exact wpAny_bind (wpAny_rule (wpAny_pure (hend _ false H' os1 (allBare_setGen hb1 hbare) un hok (hq Bool.false_ne_true))))
    · obtain ⟨H', os1, hb1, un, hok, hQ⟩ := hp
      exact wpAny_bind (wpAny_rule (wpAny_pure (hend _ true H' os1 (allBare_setGen hb1 rfl) (un.trans (Un.kept hk)) (hok.kept hk) hQ)))
  | succ m ih =>
    intro s hg hl ⟨gs, hgs, hgo⟩
    have hgl : g < s.gens.size := (Array.getElem?_eq_some_iff.mp hgs).1
    refine codeAny_builtin F.entry_all_loop ?_
    rw [Around.under_plainId F.plain_all_loop _]
    show wpAny _ A.in1 (pyNext (.ref a) >>= _) _ _ s
    refine wpAny_bind (wpAny_gsz (n := g + 1) hgl (next_genG (A := A.in1) (Er := fun _ _ => False) (F := fun _ _ s1 => ∃ H', s1.os = sc.os ∧ AllBare s1.gens ∧ Un (frs outer) ex H H' sc.heap s1.heap ∧ HOk P w H' s1.heap ∧ Q true H') hh hl hd hg hgs hgo (fun v s₁ gs' hbare hv => ?_) (fun s₁ hp h' hk => ?_) fun e s₁ he => he.elim))
    · intro hsz
      obtain ⟨b, H', rfl, os1, hb1, hl1, hg1, un, hok, hc, hq⟩ := hv
      refine wpAny_bind (wpAny_holding (wpAny_truthy_bool ?_))
      refine wpAny_bind (wpAny_letGo ?_)
      cases b with
      | true =>
        simp only [if_true]
        have hsz1 : g < s₁.gens.size := by
          have q : (s₁.setGen g gs').gens.size = s₁.gens.size := setGen_size _ _ _
          have hsz' : g + 1 ≤ (s₁.setGen g gs').gens.size := hsz
          omega
        exact wpAny_pure ⟨plainId_quiet F.plain_all_loop _, ih (s₁.setGen g gs') hg1 hl1 ⟨gs', setGen_at hsz1, hc rfl _ ⟨rfl, allBare_setGen (s := s₁.setGen g gs') (allBare_setGen hb1 hbare) rfl, fun _ _ e => e⟩⟩⟩
      | false =>
        simp only [Bool.false_eq_true, if_false]
        exact wpAny_bind (wpAny_rule (wpAny_pure (hend _ false H' os1 (allBare_setGen hb1 hbare) un hok (hq Bool.false_ne_true))))
    · intro hsz
      obtain ⟨H', os1, hb1, un, hok, hQ⟩ := hp
      exact wpAny_bind (wpAny_rule (wpAny_pure (hend _ true H' os1 (allBare_setGen hb1 rfl) (un.trans (Un.kept hk)) (hok.kept hk) hQ)))
end
section
variable {P : Program} {w : World} {outer : List Env} {H : Hp} {sc s : Shared} {ex : List Addr} {Q : Bool → Hp → Prop} {A : Around} {k : Nat} {u : Value} {E : Value → Shared → Prop}
theorem call_allB {Q' : Value → Shared → Prop} (hr : RoomG k A.in1.in1) (hd : A.depth < recursionLimit) (hfr : A.frames = some outer) (h : GMadeB P w k outer H sc ex true Q u s)
    (hQ : ∀ (t : Shared) (b : Bool) (H' : Hp), t.os = sc.os → AllBare t.gens → Un (frs outer) ex H H' sc.heap t.heap → HOk P w H' t.heap → Q b H' → Q' (.bool b) t) : wpAny (model P w) A (call (.builtin "all") [u]) Q' E s := by
  obtain ⟨a, g, c, m, rfl, _, lt, hg, fresh, os, bare, lim, _, wake⟩ := h
  refine call_function_tree F.kind_all F.plain_all F.entry_all (F.args_all1 _) ?_
  unfold Builtin.«all»
  refine wpAny_bind (m := oneArg "all" _) (wpAny_pure ?_)
  refine wpAny_bind (wpAny_pyIter_gen hg ?_)
  refine wpAny_pure ⟨plainId_quiet F.plain_all_loop _, ?_⟩
  exact drain_all (A := A) (R := fun r s => match r with | .ok (.ret v) => Q' v s | .ok _ => False | .error e => E e s) hr.room.hd hd (fun s' b H' o b1 un ok q => hQ s' b H' o b1 un ok q) m s hg lim ⟨_, fresh, rfl, wake _ _ hr hfr (fun _ _ e => e) os (allBare_setGen bare rfl)⟩
end
section
variable {X : Cx} {fr : List Str} {elt iter : Expr} {x : Str} {px p pos gpos : Pos} {scope : Scope} {te : TE} {wi : TI} {k : Nat} {js : List Nat} {c P : Addr}
theorem b_all' : bootBuiltins "all" = some (.builtin "all") := by decide +kernel
def tAllGa (tg : TGa) : TE := fun σ H Q => tg σ H fun b H2 => Q (.bl b) H2
/-- all(elt for x in iter) -/
theorem pe_allGa (hr : RoomG (k + 2) X.A) (TB : GxR.TabB X.base X.mg c P) (hcode : X.env.code = .ref c) (G : GxScope x fr X.env.scope scope) (hjs : js.map (fun j => X.N[j]?) = fr.map some) (hi : PI X (.Name x px) iter wi)
    (he : ∀ (C : Addr) (code : Value) (A : Around) (sc : Shared) (H0 : Hp) (fp : List Addr) (pn : List (Addr × Obj)), RoomG k (A.deeper (gxEnv X scope C code)) → PE (gxc X (x :: fr) (gxEnv X scope C code) A sc H0 fp pn) elt te)
    (hg : Gl X "all") (hm : X.mg "all" = none) (hs : ∀ v, genFold iter X.env v = pure v := by intro _; rfl)
    (he1 : starEach [gxE elt (.Name x px) iter scope gpos] X.env = (false, eval (gxE elt (.Name x px) iter scope gpos) X.env) :: starEach [] X.env := by rfl) :
    PE X (.Call (.Name "all" p) [gxE elt (.Name x px) iter scope gpos] [] pos) (tAllGa (tGa P js wi te true)) := ⟨fun pins s σ H Q I h => by
  have room : X.A.depth < recursionLimit := by have := hr.room.dp; omega
  refine wpAny_Call_Name_kw (ld_blt I hg hm b_all' ?_)
  refine PyProof.Rows.callWith_builtin1 ?_ he1 (by rfl)
  rw [he1]
  show wpAny _ _ (spliced ((false, eval (gxE elt (.Name x px) iter scope gpos) X.env) :: backTo pos (starEach [] X.env))) _ _ s
  refine Calls.spliced_cons (thn (ga_run hr.room.hd room TB hcode G hjs hi he hs I h) fun u s1 ⟨H1, sc, ex, I1, hex, M⟩ => ?_)
  refine Calls.spliced_nil ?_
  refine call_allB (k := k + 1) (A := X.A) ⟨⟨hr.room.hd, by have := hr.room.dp; show X.A.depth + 3 * (k + 1) + 5 < _; omega, by have := hr.room.un; show X.A.units + 1 + 1 + 16 * (k + 1) + 200 < _; omega⟩, hr.g⟩ room I1.ok.frames M fun t b H' o b1 un ok q => ?_
  exact ⟨.bl b, H', I1.call' (ch := ex) o un ok b1 hex, rfl, q⟩⟩
end
/-! ### walks -/
theorem ga_tup {K : PySem.W.Frag} {r : Addr} {xs : List V} {te : TE} {ws : List (Option V)} {e : Bool} {H : Hp} {cont : Bool → Hp → Prop} (Pv : Nat → Hp → Prop) (h0 : Pv 0 H) (hl : ∀ i H, i ≤ xs.length → Pv i H → SqT K H r xs)
    (hs : ∀ i x H, xs[i]? = some x → Pv i H → te (some x :: ws) H fun z H2 => ∃ b, z = .bl b ∧ (b = e → Pv (i + 1) H2) ∧ (b ≠ e → cont (!e) H2)) (hd : ∀ H, Pv xs.length H → cont e H) : GaB (Itt K r) te ws e H cont := by
  refine ⟨fun m i H => m = xs.length - i ∧ i ≤ xs.length ∧ Pv i H, ⟨xs.length, by simp, Nat.zero_le _, h0⟩, ?_⟩
  rintro m i H ⟨rfl, hi, p⟩
  have q := hl i H hi p
  by_cases hlt : i < xs.length
  · refine .inr ⟨⟨xs, xs[i], q, by simp [hlt]⟩, Pv (i + 1), fun H' p' => ⟨xs.length - (i + 1), by omega, rfl, hlt, p'⟩, fun x H' y => ?_⟩
    obtain ⟨z, y⟩ := y
    subst z
    exact hs i x _ (y xs q) p
  · have z : i = xs.length := by omega
    subst z
    exact .inl ⟨⟨xs, q, Nat.le_refl _⟩, hd H p⟩
theorem ga_list {K : PySem.W.Frag} {r : Addr} {xs : List V} {te : TE} {ws : List (Option V)} {e : Bool} {H : Hp} {cont : Bool → Hp → Prop} (Pv : Nat → Hp → Prop) (h0 : Pv 0 H) (hl : ∀ i H, i ≤ xs.length → Pv i H → SqL K H r xs)
    (hs : ∀ i x H, xs[i]? = some x → Pv i H → te (some x :: ws) H fun z H2 => ∃ b, z = .bl b ∧ (b = e → Pv (i + 1) H2) ∧ (b ≠ e → cont (!e) H2)) (hd : ∀ H, Pv xs.length H → cont e H) : GaB (Itl K r) te ws e H cont := by
  refine ⟨fun m i H => m = xs.length - i ∧ i ≤ xs.length ∧ Pv i H, ⟨xs.length, by simp, Nat.zero_le _, h0⟩, ?_⟩
  rintro m i H ⟨rfl, hi, p⟩
  have q := hl i H hi p
  by_cases hlt : i < xs.length
  · refine .inr ⟨⟨xs, xs[i], q, by simp [hlt]⟩, Pv (i + 1), fun H' p' => ⟨xs.length - (i + 1), by omega, rfl, hlt, p'⟩, fun x H' y => ?_⟩
    obtain ⟨z, y⟩ := y
    subst z
    exact hs i x _ (y xs q) p
  · have z : i = xs.length := by omega
    subst z
    exact .inl ⟨⟨xs, q, Nat.le_refl _⟩, hd H p⟩
theorem d_allGa {tg : TGa} {σ : L2.St} {H : Hp} {Q : VK} (q : tg σ H fun b H2 => Q (.bl b) H2) : tAllGa tg σ H Q := q
theorem d_ga {P : Addr} {js : List Nat} {wi : TI} {te : TE} {e : Bool} {σ : L2.St} {H : Hp} {cont : Bool → Hp → Prop} (q : wi σ H fun J H1 => GxR.TabG H1 P ∧ ∀ H2, GxR.Tabbed P H1 H2 → GaB J te (js.map (NdefX.slotAt σ)) e H2 cont) : tGa P js wi te e σ H cont := q
end Lw

set_option maxRecDepth 100000
set_option maxHeartbeats 4000000
/-! the tape and any tables: what a law keeps; rules on the heap; two-clause comprehensions -/
namespace Lw
open PySem PySem.Spec
open PyProof.Rows L2
structure Tl (H : Hp) (t sc : Addr) (ns : List Int) (Ps : List Addr) : Prop where
  tp : TapeAt H t sc ns
  tb : ∀ P ∈ Ps, GxR.TabG H P
structure Wl (B H : Hp) (t sc : Addr) (ns : List Int) (Ps : List Addr) : Prop where
  k : Kp (t :: Ps) B H
  n : Tl H t sc ns Ps
  b : Tl B t sc ns Ps
section
variable {B H H' : Hp} {t sc : Addr} {ns : List Int} {Ps : List Addr}
theorem Tl.nt (w : Tl H t sc ns Ps) : ∀ b ∈ t :: Ps, ∀ ys, H b ≠ some (.tup ys) := fun b hb ys => by
  rcases List.mem_cons.mp hb with z | hb
  · rw [z]; exact w.tp.not_tup ys
  · exact no_tupT (w.tb b hb) b (by simp) ys
theorem Tl.out (w : Tl H t sc ns Ps) {a : Addr} {o : HO} (e : H a = some o) (ho : ∀ ps, o ≠ .tbl ps) : a ∉ Ps := fun z => tab_ne (w.tb a z) e ho rfl
theorem Tl.fresh (w : Tl H t sc ns Ps) {p : Addr} (hp : H p = none) : p ∉ t :: Ps := fun z => by
  rcases List.mem_cons.mp z with z | z
  · exact w.tp.t_some hp z.symm
  · exact tab_fresh (w.tb p z) hp rfl
theorem Wl.start (b : Tl B t sc ns Ps) : Wl B B t sc ns Ps := ⟨Kp.refl _ _, b, b⟩
theorem Wl.re (w : Wl B H t sc ns Ps) : Wl H H t sc ns Ps := Wl.start w.n
/-- a step: the tape, tables and what B did not have -/
theorem Wl.step (w : Wl B H t sc ns Ps) {l : List Addr} (k : Kp l H H') (hl : ∀ a ∈ l, a = t ∨ a ∈ Ps ∨ B a = none) (n : Tl H' t sc ns Ps) : Wl B H' t sc ns Ps :=
  ⟨fun b o hb e => k b o (fun z => by
    rcases hl b z with h | h | h
    · exact hb (by rw [h]; exact List.mem_cons_self)
    · exact hb (List.mem_cons_of_mem _ h)
    · rw [h] at e; cases e) (w.k b o hb e), n, w.b⟩
theorem Tl.nil (w : Tl H t sc ns Ps) (k : Kp [] H H') : Tl H' t sc ns Ps := ⟨w.tp.nil k, fun P hP => (w.tb P hP).keep0 k⟩
theorem Wl.nil (w : Wl B H t sc ns Ps) (k : Kp [] H H') : Wl B H' t sc ns Ps := w.step k (fun a h => nomatch h) (w.n.nil k)
theorem Wl.new (w : Wl B H t sc ns Ps) {p : Addr} {o : HO} (hp : H p = none) : Wl B (upd H p o) t sc ns Ps := w.nil (Kp.new hp)
theorem Wl.tape (w : Wl B H t sc ns Ps) (k : Kp [t] H H') (T : TapeAt H' t sc ns) : Wl B H' t sc ns Ps :=
  w.step k (fun a h => .inl (List.mem_singleton.mp h)) ⟨T, fun P hP => GxR_one (w.n.tb P hP) k (tape_ne w.n.tp (w.n.tb P hP)).1.symm⟩
theorem Tl.tabs (w : Tl H t sc ns Ps) {l : List Addr} (k : Kp l H H') (hl : ∀ a ∈ l, a ∈ Ps) (g : ∀ P ∈ l, GxR.TabG H' P) : Tl H' t sc ns Ps :=
  ⟨w.tp.keep k (fun z => (tape_ne w.tp (w.tb t (hl t z))).1 rfl) (fun z => (tape_ne w.tp (w.tb sc (hl sc z))).2 rfl), fun P hP => by
    by_cases c : P ∈ l
    · exact g P c
    · obtain ⟨ps, e, h2⟩ := w.tb P hP
      exact ⟨ps, k P _ c e, h2⟩⟩
theorem Wl.tabs (w : Wl B H t sc ns Ps) {l : List Addr} (k : Kp l H H') (hl : ∀ a ∈ l, a ∈ Ps) (g : ∀ P ∈ l, GxR.TabG H' P) : Wl B H' t sc ns Ps :=
  w.step k (fun a h => .inr (.inl (hl a h))) (w.n.tabs k hl g)
/-- an object that B did not have is changed -/
theorem Wl.own (w : Wl B H t sc ns Ps) {p : Addr} (k : Kp [p] H H') (hp : B p = none) : Wl B H' t sc ns Ps := by
  have h := w.b.fresh hp
  refine w.step k (fun a z => .inr (.inr (by rw [List.mem_singleton.mp z]; exact hp))) ⟨w.n.tp.keep k (one_not' fun z => h (by rw [← z]; exact List.mem_cons_self)) (one_not' (w.b.tp.s_some hp)), fun P hP => GxR_one (w.n.tb P hP) k fun z => h (by rw [← z]; exact List.mem_cons_of_mem _ hP)⟩
theorem Wl.put (w : Wl B H t sc ns Ps) {p : Addr} {o : HO} (hp : B p = none) : Wl B (upd H p o) t sc ns Ps := w.own (Kp.put (by simp)) hp
/-- a new list and the tape -/
theorem Wl.list (w : Wl B H t sc ns Ps) {D : Addr} (k : Kp [D, t] H H') (hD : H D = none) (T : TapeAt H' t sc ns) : Wl B H' t sc ns Ps := w.tape (k.less hD) T
theorem Wl.kT (w : Wl B H t sc ns Ps) : KeepT B H := w.k.keepT w.b.nt
theorem Wl.at' (w : Wl B H t sc ns Ps) {v : V} {tm : Tm} (a : At B v tm) : At H v tm := a.keep w.kT
theorem Wl.ats (w : Wl B H t sc ns Ps) {vs : List V} {ts : List Tm} (a : Ats B vs ts) : Ats H vs ts := a.keep w.kT
theorem Wl.tup (w : Wl B H t sc ns Ps) {a : Addr} {xs : List V} (e : B a = some (.tup xs)) : H a = some (.tup xs) := w.kT _ _ e
theorem Wl.cell (w : Wl B H t sc ns Ps) {a : Addr} {o : HO} (e : B a = some o) (ht : a ≠ t) (ho : ∀ ps, o ≠ .tbl ps) : H a = some o :=
  w.k _ _ (fun z => (List.mem_cons.mp z).elim ht fun z => w.b.out e ho z) e
theorem Wl.lst (w : Wl B H t sc ns Ps) {a : Addr} {xs : List V} (e : B a = some (.lst xs)) (ht : a ≠ t) : H a = some (.lst xs) := w.cell e ht fun ps z => by cases z
theorem Wl.dk (w : Wl B H t sc ns Ps) {a : Addr} {kvs : List (Key × V)} (e : B a = some (.dK kvs)) : H a = some (.dK kvs) := w.cell e (dk_tape w.b.tp e) fun ps z => by cases z
theorem Wl.nt' (w : Wl B H t sc ns Ps) {a : Addr} {xs : List V} (e : B a = some (.lst xs)) (h : a ≠ t) : a ∉ t :: Ps := fun z => (List.mem_cons.mp z).elim h fun z => w.b.out e (fun ps z => by cases z) z
theorem Wl.syms (w : Wl B H t sc ns Ps) {p : Addr} {zs : List (Str × Int)} (S : SymsAt B p zs) : SymsAt H p zs := by
  obtain ⟨rs, e, _⟩ := id S.is
  exact S.keep w.k (w.nt' e (S.ne w.b.tp)) w.b.nt
theorem Wl.vars (w : Wl B H t sc ns Ps) {p : Addr} {vars : List Tm} (S : VarsAt B p vars) : VarsAt H p vars := by
  obtain ⟨rs, e, _⟩ := id S.is
  exact S.keep w.k (w.nt' e (S.ne w.b.tp)) w.b.nt
theorem Wl.dw (w : Wl B H t sc ns Ps) {sy va : Addr} {zs : List (Str × Int)} {vars : List Tm} (d : Dw B t sc sy va ns zs vars) : Dw H t sc sy va ns zs vars := ⟨w.n.tp, w.syms d.sy, w.vars d.va⟩
theorem Wl.free (w : Wl B H t sc ns Ps) {p : Addr} (hp : H p = none) : B p = none := by
  cases e : B p with
  | none => rfl
  | some o => rw [w.k p o (w.n.fresh hp) e] at hp; cases hp
theorem Wl.nlt (w : Wl B H t sc ns Ps) {p : Addr} (hp : B p = none) : p ≠ t := fun z => w.b.fresh hp (by rw [z]; exact List.mem_cons_self)
end
/-! ### rules -/
/-- a rule of this name with these premises and this conclusion -/
def RuleAt (H : Hp) (p : Addr) (z : Str) (ps : List Tm) (c : Tm) : Prop := ∃ (r : Addr) (v0 : V) (ws : List V), H p = some (.tup [.str z, .ref r, v0]) ∧ H r = some (.tup ws) ∧ At H v0 c ∧ Ats H ws ps
theorem RuleAt.keep {H H' : Hp} {p : Addr} {z : Str} {ps : List Tm} {c : Tm} (h : RuleAt H p z ps c) (k : KeepT H H') : RuleAt H' p z ps c := by
  obtain ⟨r, v0, ws, e1, e2, a, b⟩ := h
  exact ⟨r, v0, ws, k _ _ e1, k _ _ e2, a.keep k, b.keep k⟩
theorem RuleAt.nil {H H' : Hp} {p : Addr} {z : Str} {ps : List Tm} {c : Tm} (h : RuleAt H p z ps c) (k : Kp [] H H') : RuleAt H' p z ps c := h.keep (k.keepT (by simp))
theorem Wl.rule {B H : Hp} {t sc : Addr} {ns : List Int} {Ps : List Addr} (w : Wl B H t sc ns Ps) {p : Addr} {z : Str} {ps : List Tm} {c : Tm} (h : RuleAt B p z ps c) : RuleAt H p z ps c := h.keep w.kT
def Tm.args : Tm → List Tm
  | .var _ => []
  | .app _ ts => ts
theorem At.isApp {H : Hp} {v : V} {c : Tm} (a : At H v c) (h : ∃ n ts, c = .app n ts) : ∃ b n ts vs, v = .ref b ∧ c = .app n ts ∧ H b = some (.tup (.str n :: vs)) ∧ Ats H vs ts := by
  obtain ⟨n, ts, rfl⟩ := h
  cases a with
  | app e hl hs => exact ⟨_, n, ts, _, rfl, rfl, e, hl, hs⟩
/-- three places -/
theorem d_gtup3 {K : PySem.W.Frag} {H : Hp} {Q : L2.St → Hp → Prop} {σ : L2.St} {p : Addr} {i j k : Nat} {x y z : V} (e : H p = some (.tup [x, y, z])) (q : Q (((σ.set i (some x)).set j (some y)).set k (some z)) H) : gTup K 3 (gCons (gName i) (gCons (gName j) (gCons (gName k) gNil))) (.ref p) σ H Q :=
  ⟨p, [x, y, z], rfl, sqT e, rfl, x, [y, z], rfl, y, [z], rfl, z, [], rfl, rfl, q⟩
/-! ### membership -/
theorem d_inT {K : PySem.W.Frag} {H : Hp} {Q : VK} {l : Addr} {x : V} {vs : List V} {ts : List Tm} {t : Tm} (hx : At H x t) (h : H l = some (.lst vs)) (a : Ats H vs ts) (nt : t.Nice) (dt : t.depth ≤ 61) (hn : ∀ t ∈ ts, t.Nice) (hd : ∀ t ∈ ts, t.depth ≤ 61) (q : Q (.bl (decide (t ∈ ts))) H) : rInD K x (.ref l) H Q := by
  obtain ⟨h1, h2⟩ := tms_lay hn hd
  refine ⟨t.dat, ts.map Tm.dat, hx.dp, .lst (sqL h) a.dp, shaped_of (Tm.dat_can t nt) (by have := Tm.dat_dep t; omega), shaped_of h1 (by simp only [PyData.depth]; omega), ?_⟩
  rw [any_eqv nt]
  exact q
theorem d_notT {K : PySem.W.Frag} {ta : TE} {σ : L2.St} {H : Hp} {Q : VK} (q : ta σ H fun x H1 => ∃ k, TruV K x H1 k ∧ Q (.bl (!k)) H1) : tNotT K ta σ H Q := q
/-! ### two clauses -/
def Lc2In (J1 : It) (g1 : TG) (te : TE) (vs1 : List Nat) (σ2 : L2.St) (D : Addr) (H4 : Hp) (Nx : Hp → Prop) : Prop := ∃ W1 : Nat → Nat → Hp → Prop, (∃ m, W1 0 m H4) ∧ ∀ j k H, W1 j k H →
      (J1.stop j H ∧ Nx H) ∨ (J1.go j H ∧ ∃ Nx1 : Hp → Prop, (∀ H', Nx1 H' → ∃ k', k' < k ∧ W1 (j + 1) k' H') ∧ ∀ x H', J1.yld j H x H' → g1 x (wipe σ2 vs1) H' fun σ3 H5 => wipe σ3 vs1 = wipe σ2 vs1 ∧ tYes σ3 H5 fun b H6 =>
        if b = true then te σ3 H6 fun y H7 => ∃ acc, H7 D = some (.lst acc) ∧ acc.length < sizeLine ∧ Nx1 (upd H7 D (.lst (acc ++ [y]))) else Nx1 H6)
theorem lc2in_tup {K : PySem.W.Frag} {a : Addr} {xs : List V} {g1 : TG} {te : TE} {vs1 : List Nat} {σ2 : L2.St} {D : Addr} {H4 : Hp} {Nx : Hp → Prop} (Pv : Nat → Hp → Prop) (h0 : Pv 0 H4) (hl : ∀ i H, i ≤ xs.length → Pv i H → SqT K H a xs)
    (hs : ∀ i x H, xs[i]? = some x → Pv i H → g1 x (wipe σ2 vs1) H fun σ3 H5 => wipe σ3 vs1 = wipe σ2 vs1 ∧ te σ3 H5 fun y H7 => ∃ acc, H7 D = some (.lst acc) ∧ acc.length < sizeLine ∧ Pv (i + 1) (upd H7 D (.lst (acc ++ [y])))) (hd : ∀ H, Pv xs.length H → Nx H) : Lc2In (Itt K a) g1 te vs1 σ2 D H4 Nx := by
  refine ⟨fun i m H => m = xs.length - i ∧ i ≤ xs.length ∧ Pv i H, ⟨xs.length, by simp, Nat.zero_le _, h0⟩, ?_⟩
  rintro i m H ⟨rfl, hi, p⟩
  have q := hl i H hi p
  by_cases hlt : i < xs.length
  · refine .inr ⟨⟨xs, xs[i], q, by simp [hlt]⟩, Pv (i + 1), fun H' p' => ⟨xs.length - (i + 1), by omega, rfl, hlt, p'⟩, fun x H' y => ?_⟩
    obtain ⟨e, y⟩ := y
    subst e
    have z := hs i x _ (y xs q) p
    exact z
  · have e : i = xs.length := by omega
    subst e
    exact .inl ⟨⟨xs, q, Nat.le_refl _⟩, hd H p⟩
def Lc2B (J : It) (g : TG) (wi1 : TI) (g1 : TG) (te : TE) (vs vs1 : List Nat) (σ : L2.St) (H1 : Hp) (D : Addr) (Qd : Hp → Prop) : Prop := ∃ W : Nat → Nat → Hp → Prop, (∃ m, W 0 m (upd H1 D (.lst []))) ∧ ∀ i m H, W i m H →
  (J.stop i H ∧ Qd H) ∨ (J.go i H ∧ ∃ Nx : Hp → Prop, (∀ H', Nx H' → ∃ m', m' < m ∧ W (i + 1) m' H') ∧ ∀ x H', J.yld i H x H' → g x (wipe σ vs) H' fun σ2 H2 => wipe σ2 vs = wipe σ vs ∧ wi1 σ2 H2 fun J1 H4 => Lc2In J1 g1 te vs1 σ2 D H4 Nx)
theorem d_lc2 {wi wi1 : TI} {g g1 : TG} {te : TE} {vs vs1 : List Nat} {σ : L2.St} {H : Hp} {Q : VK} (q : wi σ H fun J H1 => ∀ D, H1 D = none → Lc2B J g wi1 g1 te vs vs1 σ H1 D fun H2 => Q (.ref D) H2) : tLc2 wi g tYes wi1 g1 tYes te vs vs1 σ H Q := q
theorem lb2_tup {K : PySem.W.Frag} {a : Addr} {xs : List V} {wi1 : TI} {g g1 : TG} {te : TE} {vs vs1 : List Nat} {σ : L2.St} {H1 : Hp} {D : Addr} {Qd : Hp → Prop} (Pv : Nat → Hp → Prop) (h0 : Pv 0 (upd H1 D (.lst []))) (hl : ∀ i H, i ≤ xs.length → Pv i H → SqT K H a xs)
    (hs : ∀ i x H, xs[i]? = some x → Pv i H → g x (wipe σ vs) H fun σ2 H2 => wipe σ2 vs = wipe σ vs ∧ wi1 σ2 H2 fun J1 H4 => Lc2In J1 g1 te vs1 σ2 D H4 (Pv (i + 1))) (hd : ∀ H, Pv xs.length H → Qd H) : Lc2B (Itt K a) g wi1 g1 te vs vs1 σ H1 D Qd := by
  refine ⟨fun i m H => m = xs.length - i ∧ i ≤ xs.length ∧ Pv i H, ⟨xs.length, by simp, Nat.zero_le _, h0⟩, ?_⟩
  rintro i m H ⟨rfl, hi, p⟩
  have q := hl i H hi p
  by_cases hlt : i < xs.length
  · refine .inr ⟨⟨xs, xs[i], q, by simp [hlt]⟩, Pv (i + 1), fun H' p' => ⟨xs.length - (i + 1), by omega, rfl, hlt, p'⟩, fun x H' y => ?_⟩
    obtain ⟨e, y⟩ := y
    subst e
    exact hs i x _ (y xs q) p
  · have e : i = xs.length := by omega
    subst e
    exact .inl ⟨⟨xs, q, Nat.le_refl _⟩, hd H p⟩
end Lw
namespace Lw
open PySem PySem.Spec
open PyProof.Rows L2
theorem pe_notTK {X : Cx} {K : PySem.W.Frag} {a : Expr} {ta : TE} {pos : Pos} (h : X.K = K) (ha : PE X a ta) : PE X (.UnaryOp .Not a pos) (tNotT K ta) := h ▸ pe_notT ha
theorem op_inDK {X : Cx} {K : PySem.W.Frag} (h : X.K = K) (hu : X.A.units + 65 < cLine) : OpR X (compareOp .In) (rInD K) := h ▸ op_inD hu
theorem op_notInDK {X : Cx} {K : PySem.W.Frag} (h : X.K = K) (hu : X.A.units + 65 < cLine) : OpR X (compareOp .NotIn) (rNotInD K) := h ▸ op_notInD hu
end Lw
namespace Lw
open PySem PySem.Spec
open PyProof.Rows L2
theorem pi_tupK {X : Cx} {K : PySem.W.Frag} {tg l : Expr} {tl : TE} (h : X.K = K) (hl : PE X l tl) : PI X tg l (iTup K tl) := h ▸ pi_tup hl
theorem pi_listK {X : Cx} {K : PySem.W.Frag} {tg l : Expr} {tl : TE} (h : X.K = K) (hl : PE X l tl) : PI X tg l (iList K tl) := h ▸ pi_list hl
theorem sl_tupK {X : Cx} {K : PySem.W.Frag} (h : X.K = K) : SlR X (rSlT K) := h ▸ sl_tup
end Lw
namespace Lw
open PySem PySem.Spec
open PyProof.Rows L2
theorem adds_empty {α : Type} [DecidableEq α] {l : List α} : adds [] l = [] ↔ l = [] := by
  constructor
  · intro h
    cases l with
    | nil => rfl
    | cons x r =>
      have m : x ∈ adds [] (x :: r) := mem_adds.mpr (.inr List.mem_cons_self)
      rw [h] at m
      cases m
  · rintro rfl; rfl
theorem vars_empty (u : Tm) : ((adds [] (Tm.intss [u])).map V.int).isEmpty = decide (u.ints = []) := by
  rw [Bool.eq_iff_iff, List.isEmpty_iff, decide_eq_true_iff, List.map_eq_nil_iff, adds_empty, Tm.intss_cons, Tm.intss_nil, List.append_nil]
end Lw

set_option maxRecDepth 100000
set_option maxHeartbeats 4000000
/-! promises of the defs on rules -/
namespace Lw
open PySem PySem.Spec
open PyProof.Rows L2
def spAor : Sp := fun vs H Q _ => ∃ (p : Addr) (z : Str) (ps : List Tm) (c : Tm), vs = [.ref p] ∧ RuleAt H p z ps c ∧ ps.length ≤ 1000 ∧
  ∀ H' q ys, Kp [] H H' → H' q = some (.tup ys) → Ats H' ys (c :: ps) → Q (.ref q) H'
def spVor : Sp := fun vs H Q _ => ∃ (p : Addr) (z : Str) (ps : List Tm) (c : Tm), vs = [.ref p] ∧ RuleAt H p z ps c ∧ ps.length ≤ 1000 ∧ Tm.sizes (c :: ps) ≤ 100000 ∧
  ∀ H' q, Kp [] H H' → H' q = some (.tup ((vrs (c :: ps)).map V.int)) → Q (.ref q) H'
def spDet : Sp := fun vs H Q _ => ∃ (p : Addr) (z : Str) (ps : List Tm) (c : Tm), vs = [.ref p] ∧ RuleAt H p z ps c ∧ ps.length ≤ 1000 ∧ Tm.sizes (c :: ps) ≤ 100000 ∧
  ∀ H', Kp [] H H' → Q (.bl (decide ((vrs (c :: ps)).length = (vrs [c]).length))) H'
/-- all arguments of all premises are parts of arguments of the conclusion, or have no variables -/
def ana (ps : List Tm) (c : Tm) : Prop := ∀ a ∈ ps, ∀ u ∈ a.args, u ∈ Tm.occs c.args ∨ u.ints = []
noncomputable instance (ps : List Tm) (c : Tm) : Decidable (ana ps c) := by unfold ana; infer_instance
def spAna (P : Addr) : Sp := fun vs H Q _ => ∃ (p : Addr) (z : Str) (ps : List Tm) (c : Tm), vs = [.ref p] ∧ RuleAt H p z ps c ∧ ps.length ≤ 20 ∧ Tm.sizes (c :: ps) ≤ 1000 ∧ (∀ a ∈ c :: ps, a.Nice ∧ a.depth ≤ 60 ∧ ∃ n ts, a = .app n ts) ∧ GxR.TabG H P ∧
  ∀ H', Kp [P] H H' → GxR.TabG H' P → Q (.bl (decide (ana ps c))) H'
end Lw
namespace Lw
open PySem PySem.Spec
open PyProof.Rows L2
def spPartsA (d : Nat) : Sp := fun vs H Q _ => ∃ (v : V) (l : Addr) (tm : Tm) (fs : List V) (acc : List Tm), vs = [v, .ref l] ∧ At H v tm ∧ tm.depth ≤ d ∧ H l = some (.lst fs) ∧ Ats H fs acc ∧ acc.length + tm.size ≤ 500000 ∧
  ∀ (H' : Hp) (fs' : List V), Kp [l] H H' → H' l = some (.lst fs') → Ats H' fs' (acc ++ tm.occ) → Q .non H'
theorem Gen.more {zs : List (Str × Int)} {vars : List Tm} {d : Nat} {t : Tm} (h : Gen zs [] d t) : Gen zs vars d t := by
  induction h with
  | var h => cases h
  | leaf h => exact .leaf h
  | app h hl _ ih => exact .app h hl ih
/-- an argument of a drawn premise -/
def PremOk (zs : List (Str × Int)) (vars us : List Tm) (u : Tm) : Prop := Gen zs vars 1 u ∨ u ∈ us
def spPremise : Sp := fun vs H Q _ => ∃ (t sc sy va r pl : Addr) (ns : List Int) (zs : List (Str × Int)) (vars us : List Tm) (fs : List V) (z : Str) (n kind : Int), vs = [.ref t, .ref sy, .ref va, .ref r, .ref pl, .int kind] ∧ TapeAt H t sc ns ∧ SymsAt H sy zs ∧ 1 ≤ zs.length ∧ zs.length ≤ 1000 ∧ VarsAt H va vars ∧ vars.length ≤ 1000 ∧
  H r = some (.tup [.str z, .int n]) ∧ 0 ≤ n ∧ n ≤ 3 ∧ H pl = some (.lst fs) ∧ Ats H fs us ∧ us.length ≤ 100000 ∧ pl ≠ t ∧
  ∀ H' v ts, Kp [t] H H' → TapeAt H' t sc ns → At H' v (.app z ts) → ts.length = n.toNat → (∀ u ∈ ts, PremOk zs vars us u) → Q v H'
end Lw

set_option maxRecDepth 100000
set_option maxHeartbeats 4000000
/-! truth values told alike; a dict's copy -/
namespace Lw
open PySem PySem.Spec
open PyProof.Rows L2
def rReprB : List V → Hp → VK → Prop := fun xs H Q => ∃ b : Bool, xs = [.bl b] ∧ Q (.str (if b then "True" else "False")) H
theorem c_reprB {X : Cx} : CallR X (.builtin "repr") rReprB := by
  intro pins s σ H xs us Q I r h
  obtain ⟨b, rfl, q⟩ := h
  obtain ⟨u, rfl, rx⟩ := vals1 r
  obtain rfl : u = Value.bool b := rx
  exact PySem.P.repr_of_bool ⟨.str _, H, I.tok _, ⟨_, by cases b <;> rfl⟩, q⟩
theorem k_bi : kitB "bool" "int" = some true := by decide +kernel
theorem k_bt : kitB "bool" "tuple" = some false := by decide +kernel
theorem d_isBI {K : PySem.W.Frag} {H : Hp} {Q : VK} {b : Bool} (q : Q (.bl true) H) : rIsi K [.bl b, .ty "int"] H Q := ⟨_, _, _, _, true, rfl, .ty _, .base (.bl b), kit_ty k_bi, q⟩
theorem d_isBT {K : PySem.W.Frag} {H : Hp} {Q : VK} {b : Bool} (q : Q (.bl false) H) : rIsi K [.bl b, .ty "tuple"] H Q := ⟨_, _, _, _, false, rfl, .ty _, .base (.bl b), kit_ty k_bt, q⟩
def spAlikeB : Sp := fun vs H Q _ => ∃ b : Bool, vs = [.bl b, .bl b] ∧ Q (.bl true) H
def rDictD : List V → Hp → VK → Prop := fun xs H Q => ∃ (a : Addr) (kvs : List (Key × V)), xs = [.ref a] ∧ Rd H a (.dK kvs) ∧ ∀ p, H p = none → Q (.ref p) (upd H p (.dK kvs))
theorem c_dictD {X : Cx} : CallR X (.type "dict") rDictD := call_dictD
end Lw

set_option maxRecDepth 100000
set_option maxHeartbeats 4000000
/-! determined, analytic -/
namespace Lw
open PySem PySem.Spec
open PyProof.Rows L2
theorem mem_ints {t : Tm} {i : Int} : i ∈ t.ints ↔ .var i ∈ t.occ := by
  unfold Tm.ints
  rw [List.mem_filterMap]
  constructor
  · rintro ⟨u, hu, e⟩
    cases u with
    | var j => cases e; exact hu
    | app _ _ => cases e
  · exact fun h => ⟨_, h, rfl⟩
theorem mem_intss {ts : List Tm} {i : Int} : i ∈ Tm.intss ts ↔ ∃ t ∈ ts, i ∈ t.ints := by
  unfold Tm.intss
  rw [List.mem_filterMap]
  constructor
  · rintro ⟨u, hu, e⟩
    obtain ⟨t, ht, hu⟩ := Tm.mem_occs.mp hu
    exact ⟨t, ht, List.mem_filterMap.mpr ⟨u, hu, e⟩⟩
  · rintro ⟨t, ht, h⟩
    obtain ⟨u, hu, e⟩ := List.mem_filterMap.mp h
    exact ⟨u, Tm.mem_occs.mpr ⟨t, ht, hu⟩, e⟩
mutual
theorem Tm.sub_inj {θ θ' : Int → Option Tm} : ∀ t : Tm, t.sub θ = t.sub θ' → ∀ i ∈ t.ints, (θ i).getD (.var i) = (θ' i).getD (.var i)
  | .var j, h, i, hi => by
    rw [Tm.ints_var] at hi
    rw [List.mem_singleton.mp hi]
    rw [Tm.sub_var, Tm.sub_var] at h
    exact h
  | .app n ts, h, i, hi => by
    rw [Tm.sub_app, Tm.sub_app] at h
    rw [Tm.ints_app] at hi
    exact Tm.subs_inj ts (Tm.app.inj h).2 i hi
theorem Tm.subs_inj {θ θ' : Int → Option Tm} : ∀ ts : List Tm, Tm.subs θ ts = Tm.subs θ' ts → ∀ i ∈ Tm.intss ts, (θ i).getD (.var i) = (θ' i).getD (.var i)
  | [], _, i, hi => by rw [Tm.intss_nil] at hi; cases hi
  | t :: r, h, i, hi => by
    rw [Tm.subs, Tm.subs] at h
    rw [Tm.intss_cons] at hi
    rcases List.mem_append.mp hi with hi | hi
    · exact Tm.sub_inj t (List.cons.inj h).1 i hi
    · exact Tm.subs_inj r (List.cons.inj h).2 i hi
end
/-- no variable of the premises that the conclusion does not have -/
def detF (V : List Int) (ps : List Tm) (c : Tm) : Prop := ∀ v ∈ V, v ∉ c.ints → ∀ a ∈ ps, v ∉ a.ints
noncomputable instance (V : List Int) (ps : List Tm) (c : Tm) : Decidable (detF V ps c) := by unfold detF; infer_instance
theorem det_iff (ps : List Tm) (c : Tm) : (vrs (c :: ps)).length = (vrs [c]).length ↔ detF (vrs (c :: ps)) ps c := by
  have m1 : ∀ i, i ∈ vrs [c] ↔ i ∈ c.ints := fun i => by rw [mem_vrs, Tm.intss_cons, Tm.intss_nil, List.append_nil]
  have m2 : ∀ i, i ∈ vrs (c :: ps) ↔ i ∈ c.ints ∨ ∃ a ∈ ps, i ∈ a.ints := fun i => by rw [mem_vrs, Tm.intss_cons, List.mem_append, mem_intss]
  constructor
  · intro h v hv hc a ha hva
    have h1 := nodup_len (v :: vrs [c]) (vrs (c :: ps)) (List.nodup_cons.mpr ⟨fun z => hc ((m1 v).mp z), vrs_nodup _⟩) fun x hx => by
      rcases List.mem_cons.mp hx with rfl | hx
      · exact hv
      · exact (m2 x).mpr (.inl ((m1 x).mp hx))
    rw [List.length_cons] at h1
    omega
  · intro h
    have h1 := nodup_len (vrs [c]) (vrs (c :: ps)) (vrs_nodup _) fun x hx => (m2 x).mpr (.inl ((m1 x).mp hx))
    have h2 := nodup_len (vrs (c :: ps)) (vrs [c]) (vrs_nodup _) fun x hx => by
      rw [m1]
      by_cases z : x ∈ c.ints
      · exact z
      · rcases (m2 x).mp hx with z2 | ⟨a, ha, z2⟩
        · exact z2
        · exact absurd z2 (h x hx z a ha)
    omega
theorem ana_det {ps : List Tm} {c : Tm} (hc : ∃ n ts, c = .app n ts) (hp : ∀ a ∈ ps, ∃ n ts, a = Tm.app n ts) (h : ana ps c) : detF (vrs (c :: ps)) ps c := by
  intro v _ hv a ha hva
  obtain ⟨n, ts, rfl⟩ := hp a ha
  rw [Tm.ints_app] at hva
  obtain ⟨u, hu, hvu⟩ := mem_intss.mp hva
  rcases h _ ha u hu with z | z
  · obtain ⟨m, us, rfl⟩ := hc
    have z : u ∈ Tm.occs us := z
    refine hv ?_
    rw [Tm.ints_app]
    have := Tm.occs_trans us u z _ (mem_ints.mp hvu)
    obtain ⟨t, ht, h2⟩ := Tm.mem_occs.mp this
    exact mem_intss.mpr ⟨t, ht, mem_ints.mpr h2⟩
  · rw [z] at hvu; cases hvu
/-! ### the names that stand for variables -/
def aN (i : Int) : Str := Str.ofString "a" ++ Str.ofString (toString i)
theorem aN_ok : ∀ i : Nat, i < 4 → (aN (i : Int)).cps.toList.length ≤ 20 ∧ (∀ c ∈ (aN (i : Int)).cps.toList, 32 ≤ c ∧ c < 127 ∧ c ≠ 39 ∧ c ≠ 92) ∧ aN (i : Int) ≠ "other" ∧ ((i : Int)).natAbs.log2 < 1920 ∧ (Str.ofString "a").length + (Str.ofString (toString (i : Int))).length ≤ 1000000 := by decide +kernel
def hT (V : List Int) : Int → Option Tm := fun i => if i ∈ V then some (.app (aN i) []) else none
theorem hT_nil : hT [] = fun _ => none := funext fun i => if_neg List.not_mem_nil
theorem hT_snoc (L : List Int) (v : Int) : hT (L ++ [v]) = fun j => if j = v then some (.app (aN v) []) else hT L j := by
  funext j
  unfold hT
  by_cases e : j = v
  · subst e; rw [if_pos (by simp), if_pos rfl]
  · rw [if_neg e]
    by_cases m : j ∈ L
    · rw [if_pos (by simp [m]), if_pos m]
    · rw [if_neg (by simp [m, e]), if_neg m]
theorem aN_at {i : Int} (h : 0 ≤ i ∧ i < 4) : TxtOk (aN i) ∧ aN i ≠ "other" ∧ i.natAbs.log2 < 1920 ∧ (Str.ofString "a").length + (Str.ofString (toString i)).length ≤ 1000000 := by
  obtain ⟨n, rfl⟩ := Int.eq_ofNat_of_zero_le h.1
  obtain ⟨h1, h2, h3, h4, h5⟩ := aN_ok n (by omega)
  exact ⟨⟨h1, h2⟩, h3, h4, h5⟩
theorem hT_tiny {V : List Int} (h : ∀ i ∈ V, 0 ≤ i ∧ i < 4) : Tiny (hT V) := fun i t e => by
  unfold hT at e
  split at e
  · rename_i m
    rw [← Option.some.inj e]
    exact ⟨by rw [Tm.nice_app]; exact ⟨(aN_at (h i m)).1, Tm.nices_nil⟩, by rw [Tm.size_app, Tm.sizes_nil]; exact Nat.le_refl _, by rw [Tm.depth_app, Tm.depths_nil]; exact Nat.le_refl _⟩
  · cases e
theorem txt_other : TxtOk "other" := ⟨by decide +kernel, by decide +kernel⟩
theorem other_tiny : (Tm.app "other" []).Nice ∧ (Tm.app "other" []).size ≤ 1 ∧ (Tm.app "other" []).depth ≤ 1 :=
  ⟨by rw [Tm.nice_app]; exact ⟨txt_other, Tm.nices_nil⟩, by rw [Tm.size_app, Tm.sizes_nil]; exact Nat.le_refl _, by rw [Tm.depth_app, Tm.depths_nil]; exact Nat.le_refl _⟩
theorem other_iff {V : List Int} {v : Int} (hv : v ∈ V) (h4 : 0 ≤ v ∧ v < 4) (t : Tm) : t.sub (hT V) = t.sub (fun j => if j = v then some (.app "other" []) else hT V j) ↔ v ∉ t.ints := by
  constructor
  · intro h m
    have := Tm.sub_inj t h v m
    have e1 : hT V v = some (.app (aN v) []) := if_pos hv
    have e2 : (if v = v then some (Tm.app "other" []) else hT V v) = some (Tm.app "other" []) := if_pos rfl
    have this : (hT V v).getD (.var v) = (if v = v then some (Tm.app "other" []) else hT V v).getD (.var v) := this
    rw [e2, e1] at this
    exact (aN_at h4).2.1 (Tm.app.inj this).1
  · intro h
    refine Tm.sub_congr t fun i hi => ?_
    show hT V i = if i = v then _ else hT V i
    rw [if_neg (fun z : i = v => h (by rw [← z]; exact hi))]
theorem numd_vals {ts : List Tm} : ∀ i ∈ Tm.intss (numd ts), 0 ≤ i ∧ i < ((vrs ts).length : Int) := fun i hi => by
  unfold numd at hi
  rw [← Tm.subs_map, Tm.intss_ren (ρ := fun j => ((vrs ts).idxOf j : Nat)) ts fun j hj => renT_in j (mem_vrs.mpr hj)] at hi
  obtain ⟨j, hj, rfl⟩ := List.mem_map.mp hi
  have := List.idxOf_lt_length_iff.mpr (mem_vrs.mpr hj)
  omega
theorem sub_app {θ : Int → Option Tm} {t : Tm} (h : ∃ n ts, t = .app n ts) : ∃ n ts, t.sub θ = .app n ts := by
  obtain ⟨n, ts, rfl⟩ := h
  exact ⟨n, _, Tm.sub_app _ _ _⟩
theorem numd_app {ts : List Tm} (h : ∀ t ∈ ts, ∃ n us, t = Tm.app n us) : ∀ t ∈ numd ts, ∃ n us, t = Tm.app n us := fun t ht => by
  obtain ⟨u, hu, rfl⟩ := List.mem_map.mp ht
  exact sub_app (h u hu)
end Lw

set_option maxRecDepth 100000
set_option maxHeartbeats 4000000
/-! names, valid atoms, valid rules -/
namespace Lw
open PySem PySem.Spec
open PyProof.Rows L2
/-- a module-level name stands for this value -/
def Glo (mg : Str → Option Value) (x : Str) (v : V) : Prop := ∃ u, mg x = some u ∧ RelV v u
theorem pe_gl {X : Cx} {x : Str} {v : V} {pos : Pos} (hg : Gl X x) (h : Glo X.mg x v) (hd : (x == ("__debug__" : Str)) = false := by decide) : PE X (.Name x pos) (tC v) := by
  obtain ⟨u, hm, r⟩ := h
  exact pe_glob hg hm r hd
theorem ga_str {z : Str} {te : TE} {ws : List (Option V)} {e : Bool} {H : Hp} {cont : Bool → Hp → Prop} (Pv : Nat → Hp → Prop) (h0 : Pv 0 H)
    (hs : ∀ i c H, z.cps.toList[i]? = some c → Pv i H → te (some (.str ⟨#[c]⟩) :: ws) H fun y H2 => ∃ b, y = .bl b ∧ (b = e → Pv (i + 1) H2) ∧ (b ≠ e → cont (!e) H2)) (hd : ∀ H, Pv z.cps.toList.length H → cont e H) : GaB (Its z) te ws e H cont := by
  have hz : z.cps.size = z.cps.toList.length := by simp
  refine ⟨fun m i H => m = z.cps.toList.length - i ∧ i ≤ z.cps.toList.length ∧ Pv i H, ⟨z.cps.toList.length, by rw [Nat.sub_zero], Nat.zero_le _, h0⟩, ?_⟩
  rintro m i H ⟨rfl, hi, p⟩
  by_cases hlt : i < z.cps.toList.length
  · refine .inr ⟨?_, Pv (i + 1), fun H' p' => ⟨z.cps.toList.length - (i + 1), by omega, rfl, hlt, p'⟩, fun x H' y => ?_⟩
    · first | exact hlt | (show i < z.cps.size; omega)
    · obtain ⟨rfl, c, hc, rfl⟩ := y
      exact hs i c _ (by first | exact hc | simpa using hc) p
  · have q : i = z.cps.toList.length := by omega
    subst q
    refine .inl ⟨?_, hd H p⟩
    first | exact Nat.le_refl _ | (show z.cps.size ≤ _; omega)

theorem mem_small {c : Nat} : c ∈ (Str.ofString "abcdefghijklmnopqrstuvwxyz").cps.toList ↔ smallC c := by
  rw [show (Str.ofString "abcdefghijklmnopqrstuvwxyz").cps.toList = List.range' 97 26 from by decide +kernel, List.mem_range'_1]
  unfold smallC
  omega
theorem mem_sign {c : Nat} : c ∈ (Str.ofString "abcdefghijklmnopqrstuvwxyzABCDEFGHIJKLMNOPQRSTUVWXYZ0123456789").cps.toList ↔ signC c := by
  rw [show (Str.ofString "abcdefghijklmnopqrstuvwxyzABCDEFGHIJKLMNOPQRSTUVWXYZ0123456789").cps.toList = List.range' 97 26 ++ (List.range' 65 26 ++ List.range' 48 10) from by decide +kernel, List.mem_append, List.mem_append, List.mem_range'_1, List.mem_range'_1, List.mem_range'_1]
  unfold signC
  omega
/-- what a name is -/
def IsName (z : Str) : Prop := 1 ≤ z.cps.toList.length ∧ z.cps.toList.length ≤ 16 ∧ (∀ c, z.cps.toList[0]? = some c → smallC c) ∧ ∀ c ∈ z.cps.toList, signC c
noncomputable instance (z : Str) : Decidable (IsName z) := Classical.propDecidable _
theorem NameOk.is {z : Str} (h : NameOk z) : IsName z := ⟨h.pos, h.le, h.first, h.all⟩
theorem name_ne_eq {z : Str} (h : IsName z) : z ≠ "=" := fun e => by
  have := h.2.2.1 61 (by rw [e]; decide +kernel)
  unfold smallC at this
  omega
def spIsName (P : Addr) : Sp := fun vs H Q _ => ∃ z : Str, vs = [.str z] ∧ z.cps.toList.length ≤ 1000 ∧ GxR.TabG H P ∧ ∀ H', Kp [P] H H' → GxR.TabG H' P → Q (.bl (decide (IsName z))) H'
def spIsEq : Sp := fun vs H Q _ => ∃ (v : V) (n : Str) (ts : List Tm), vs = [v] ∧ At H v (.app n ts) ∧ Q (.bl (decide (n = "="))) H
def spIsSmall : Sp := fun vs H Q _ => ∃ a b : Nat, vs = [.int a, .int b] ∧ Q (.bl (decide (a ≤ 60 ∧ b ≤ 12))) H
def Tm.isA : Tm → Bool
  | .var _ => false
  | .app _ _ => true
def Tm.nm : Tm → Str
  | .var _ => ""
  | .app n _ => n
/-- the applications in it -/
def Tm.apps (t : Tm) : List Tm := t.occ.filter Tm.isA
/-- a valid atom -/
def VAtom : Tm → Prop
  | .var _ => False
  | .app n ts => (∀ u ∈ (if n = "=" ∧ ts.length = 2 then (Tm.app n ts).apps.drop 1 else (Tm.app n ts).apps), IsName u.nm) ∧ (∀ u ∈ (Tm.app n ts).apps, u.args.length ≤ 8) ∧ (Tm.app n ts).size ≤ 60 ∧ (Tm.app n ts).depth ≤ 12
noncomputable instance (t : Tm) : Decidable (VAtom t) := Classical.propDecidable _
def VRule (z : Str) (ps : List Tm) (c : Tm) : Prop := IsName z ∧ ps.length ≤ 4 ∧ (∀ a ∈ c :: ps, VAtom a) ∧ c.nm ≠ "=" ∧ (vrs (c :: ps)).length ≤ 12 ∧ numd (c :: ps) = c :: ps
noncomputable instance (z : Str) (ps : List Tm) (c : Tm) : Decidable (VRule z ps c) := Classical.propDecidable _
/-- Pn: is_name's table, Pa: is_valid_atom's -/
def spVAtom (Pn Pa : Addr) : Sp := fun vs H Q _ => ∃ (v : V) (n : Str) (ts : List Tm), vs = [v] ∧ At H v (.app n ts) ∧ (Tm.app n ts).Nice ∧ (Tm.app n ts).size ≤ 20000 ∧ (Tm.app n ts).depth ≤ 60 ∧ GxR.TabG H Pn ∧ GxR.TabG H Pa ∧
  ∀ H', Kp [Pn, Pa] H H' → GxR.TabG H' Pn → GxR.TabG H' Pa → Q (.bl (decide (VAtom (.app n ts)))) H'
/-- P1: instance_of's, P2: numbered's -/
def spNumRule (P1 P2 : Addr) (d : Nat) : Sp := fun vs H Q _ => ∃ (p : Addr) (z : Str) (ps : List Tm) (c : Tm), vs = [.ref p] ∧ RuleAt H p z ps c ∧ ps.length ≤ 1000 ∧ (∀ a ∈ c :: ps, a.depth ≤ d) ∧ Tm.sizes (c :: ps) ≤ 100000 ∧ GxR.TabG H P1 ∧ GxR.TabG H P2 ∧
  ∀ H' q ps' c', Kp [P1, P2] H H' → GxR.TabG H' P1 → GxR.TabG H' P2 → RuleAt H' q z ps' c' → c' :: ps' = numd (c :: ps) → Q (.ref q) H'
def spVRule (Pn Pa Pr P1 P2 : Addr) : Sp := fun vs H Q _ => ∃ (p : Addr) (z : Str) (ps : List Tm) (c : Tm), vs = [.ref p] ∧ RuleAt H p z ps c ∧ TxtOk z ∧ ps.length ≤ 100 ∧ (∀ a ∈ c :: ps, a.Nice ∧ a.depth ≤ 50 ∧ ∃ n ts, a = Tm.app n ts) ∧ Tm.sizes (c :: ps) ≤ 7000 ∧
  (∀ P ∈ [Pn, Pa, Pr, P1, P2], GxR.TabG H P) ∧ ∀ H', Kp [Pn, Pa, Pr, P1, P2] H H' → (∀ P ∈ [Pn, Pa, Pr, P1, P2], GxR.TabG H' P) → Q (.bl (decide (VRule z ps c))) H'
theorem d_lenS {H : Hp} {Q : VK} {z : Str} (h : z.cps.toList.length ≤ 1000000) (q : Q (.int z.cps.toList.length) H) : (fun (xs : List V) (H : Hp) (Q : VK) => ∃ z, xs = [V.str z] ∧ z.length ≤ sizeLine ∧ Q (.int z.length) H) [.str z] H Q :=
  ⟨z, rfl, by rw [str_len]; exact smallN h, by rw [str_len]; exact q⟩
theorem d_ixS {H : Hp} {Q : VK} {z : Str} {i : Int} {c : Nat} (h : z.cps.toList.length ≤ 1000000) (e : atI z.cps.toList i = some c) (q : Q (.str ⟨#[c]⟩) H) : rIxS (.str z) (.int i) H Q := ⟨z, i, c, rfl, rfl, by rw [str_len]; exact smallN h, e, q⟩
theorem d_inS {H : Hp} {Q : VK} {z : Str} {c : Nat} (q : Q (.bl (decide (c ∈ z.cps.toList))) H) : rInS (.str ⟨#[c]⟩) (.str z) H Q := ⟨c, z, rfl, rfl, q⟩
theorem d_str {te : TE} {σ : L2.St} {H : Hp} {R : It → Hp → Prop} (q : te σ H fun v H1 => ∃ x, v = .str x ∧ R (Its x) H1) : iStr te σ H R := q
theorem d_chain {r r' : R2} {ta tb tc : TE} {σ : L2.St} {H : Hp} {Q : VK} (q : ta σ H fun x H1 => tb σ H1 fun y H2 => r x y H2 fun z H3 => ∃ k, z = .bl k ∧ (if k = true then tc σ H3 fun w' H4 => r' y w' H4 Q else Q (.bl false) H3)) : tChain r r' ta tb tc σ H Q := q
def rMaxL (K : PySem.W.Frag) : List V → Hp → VK → Prop := rMax K
theorem c_maxL {X : Cx} (hc : X.calm = true) : CallR X (.builtin "max") (rMaxL X.K) := cr_max hc
theorem d_maxL {K : PySem.W.Frag} {H : Hp} {Q : VK} {a : Addr} {ns : List Int} (h : H a = some (.lst (ns.map V.int))) (h0 : 0 < ns.length) (q : ∀ m, m ∈ ns → (∀ y ∈ ns, y ≤ m) → Q (.int m) H) : rMaxL K [.ref a] H Q := ⟨a, ns, rfl, sqL h, h0, fun m h1 h2 => q m h1 h2⟩
/-- with a test -/
theorem lb_listT {K : PySem.W.Frag} {a : Addr} {xs : List V} {g : TG} {tt : TT} {te : TE} {vs : List Nat} {σ : L2.St} {H1 : Hp} {D : Addr} {Qd : Hp → Prop} (Pv : Nat → Hp → Prop) (h0 : Pv 0 (upd H1 D (.lst []))) (hl : ∀ i H, i ≤ xs.length → Pv i H → SqL K H a xs)
    (hs : ∀ i x H, xs[i]? = some x → Pv i H → g x (wipe σ vs) H fun σ2 H2 => wipe σ2 vs = wipe σ vs ∧ tt σ2 H2 fun b H3 => if b = true then te σ2 H3 fun y H4 => ∃ acc, H4 D = some (.lst acc) ∧ acc.length < sizeLine ∧ Pv (i + 1) (upd H4 D (.lst (acc ++ [y]))) else Pv (i + 1) H3) (hd : ∀ H, Pv xs.length H → Qd H) :
    LcB (Itl K a) g tt te vs σ H1 D Qd := lc_list Pv h0 hl hs hd
theorem call_isiK2 {X : Cx} {K : PySem.W.Frag} (h : X.K = K) : CallR X (.builtin "isinstance") (rIsi K) := h ▸ call_isi
theorem Tm.apps_app (n : Str) (ts : List Tm) : (Tm.app n ts).apps = .app n ts :: (Tm.occs ts).filter Tm.isA := by unfold Tm.apps; rw [Tm.occ_app]; rfl
theorem Tm.apps_mem {t u : Tm} (h : u ∈ t.apps) : u ∈ t.occ ∧ ∃ n ts, u = .app n ts := by
  unfold Tm.apps at h
  obtain ⟨h1, h2⟩ := List.mem_filter.mp h
  cases u with
  | var i => cases h2
  | app n ts => exact ⟨h1, n, ts, rfl⟩
theorem take_succ_filter {l : List Tm} {j : Nat} {u : Tm} (h : l[j]? = some u) (f : Tm → Bool) : (l.take (j + 1)).filter f = (l.take j).filter f ++ if f u = true then [u] else [] := by
  rw [take_succ_of h, List.filter_append]
  congr 1
  cases e : f u <;> simp [e]
end Lw
namespace Lw
open PySem PySem.Spec
open PyProof.Rows L2
/-! ### tables alone -/
structure Wt (B H : Hp) (Ps : List Addr) : Prop where
  k : Kp Ps B H
  g : ∀ P ∈ Ps, GxR.TabG H P
  b : ∀ P ∈ Ps, GxR.TabG B P
section
variable {B H H' : Hp} {Ps : List Addr}
theorem tabs_nt (g : ∀ P ∈ Ps, GxR.TabG H P) : ∀ b ∈ Ps, ∀ ys, H b ≠ some (.tup ys) := fun b hb ys => no_tupT (g b hb) b (by simp) ys
theorem Wt.start (b : ∀ P ∈ Ps, GxR.TabG B P) : Wt B B Ps := ⟨Kp.refl _ _, b, b⟩
theorem Wt.nil (w : Wt B H Ps) (k : Kp [] H H') : Wt B H' Ps := ⟨w.k.trans (k.mono (by simp)), fun P hP => (w.g P hP).keep0 k, w.b⟩
theorem Wt.tabs (w : Wt B H Ps) {l : List Addr} (k : Kp l H H') (hl : ∀ a ∈ l, a ∈ Ps) (g : ∀ P ∈ l, GxR.TabG H' P) : Wt B H' Ps :=
  ⟨w.k.trans (k.mono hl), fun P hP => by
    by_cases c : P ∈ l
    · exact g P c
    · obtain ⟨ps, e, h2⟩ := w.g P hP
      exact ⟨ps, k P _ c e, h2⟩, w.b⟩
theorem Wt.kT (w : Wt B H Ps) : KeepT B H := w.k.keepT (tabs_nt w.b)
theorem Wt.cell (w : Wt B H Ps) {a : Addr} {o : HO} (e : B a = some o) (ho : ∀ ps, o ≠ .tbl ps) : H a = some o := w.k _ _ (fun z => tab_ne (w.b a z) e ho rfl) e
theorem Wt.lst (w : Wt B H Ps) {a : Addr} {xs : List V} (e : B a = some (.lst xs)) : H a = some (.lst xs) := w.cell e fun ps z => by cases z
theorem Wt.rule (w : Wt B H Ps) {p : Addr} {z : Str} {ps : List Tm} {c : Tm} (h : RuleAt B p z ps c) : RuleAt H p z ps c := h.keep w.kT
theorem Wt.re (w : Wt B H Ps) : Wt H H Ps := Wt.start w.g
end
/-! ### rules as data -/
def ruleD (z : Str) (ps : List Tm) (c : Tm) : PyData := .tuple [.str z, .tuple (ps.map Tm.dat), c.dat]
theorem RuleAt.dp {K : PySem.W.Frag} {H : Hp} {p : Addr} {z : Str} {ps : List Tm} {c : Tm} (h : RuleAt H p z ps c) : Dp K H (.ref p) (ruleD z ps c) := by
  obtain ⟨r, v0, ws, e1, e2, a, b⟩ := h
  exact dp_tup e1 (.cons (.str _) (.cons (dp_tup e2 b.dp) (.cons a.dp .nil)))
theorem ruleD_gd {z : Str} {ps : List Tm} {c : Tm} {d s : Nat} (tz : TxtOk z) (hn : ∀ a ∈ c :: ps, a.Nice ∧ a.depth ≤ d) (hs : Tm.sizes (c :: ps) ≤ s) : Gd (d + 2) (126 * s + 130) (ruleD z ps c) := by
  have h1 : Gd (d + 1) (42 * s + 1) (.tuple (ps.map Tm.dat)) := Gd.tms (fun t ht => (hn t (List.mem_cons_of_mem _ ht)).1) (fun t ht => (hn t (List.mem_cons_of_mem _ ht)).2) (by rw [Tm.sizes_cons] at hs; omega)
  have h2 : Gd d (42 * s) c.dat := Gd.tm (hn c (by simp)).1 (hn c (by simp)).2 (by rw [Tm.sizes_cons] at hs; omega)
  refine Gd.tup (b := d + 1) (w := 42 * s + 43) (fun x hx => ?_) (Nat.le_refl _) (by show 3 * (42 * s + 43) + 1 ≤ _; omega)
  rcases List.mem_cons.mp hx with rfl | hx
  · exact (Gd.str tz).mono (by omega) (by omega)
  rcases List.mem_cons.mp hx with rfl | hx
  · exact h1.mono (Nat.le_refl _) (by omega)
  · rw [List.mem_singleton.mp hx]; exact h2.mono (by omega) (by omega)
theorem ruleD_eqv {z z' : Str} {ps ps' : List Tm} {c c' : Tm} (g : Good (ruleD z ps c)) : PyData.eqv (ruleD z ps c) (ruleD z' ps' c') = decide (z = z' ∧ c :: ps = c' :: ps') := by
  rw [Bool.eq_iff_iff, decide_eq_true_iff]
  constructor
  · intro h
    have h : ((z == z') && (PyData.eqvAll (ps.map Tm.dat) (ps'.map Tm.dat) && (PyData.eqv c.dat c'.dat && true))) = true := h
    simp only [Bool.and_eq_true] at h
    obtain ⟨h1, h2, h3, _⟩ := h
    rw [← Tm.dats_map, ← Tm.dats_map] at h2
    exact ⟨eq_of_beq h1, by rw [Tm.eqv_eq _ _ h3, Tm.eqvs_eq _ _ h2]⟩
  · rintro ⟨rfl, h⟩
    obtain ⟨rfl, rfl⟩ := List.cons.inj h
    exact PySem.SeqAt.eqv_refl _ g.can
theorem d_eqRule {K : PySem.W.Frag} {H : Hp} {Q : VK} {p p' : Addr} {z z' : Str} {ps ps' : List Tm} {c c' : Tm} (h : RuleAt H p z ps c) (h' : RuleAt H p' z' ps' c') (g : Good (ruleD z ps c)) (g' : Good (ruleD z' ps' c')) (q : Q (.bl (decide (z = z' ∧ c :: ps = c' :: ps'))) H) : rEqD K (.ref p) (.ref p') H Q :=
  d_eqD h.dp h'.dp g g' (by rw [ruleD_eqv g]; exact q)
theorem numd_depth {ts : List Tm} {d : Nat} (h : ∀ t ∈ ts, t.depth ≤ d) : ∀ u ∈ numd ts, u.depth ≤ d := fun u hu => by
  obtain ⟨t, ht, _, h2⟩ := numd_size ts u hu
  exact Nat.le_trans h2 (h t ht)
end Lw

set_option maxRecDepth 100000
set_option maxHeartbeats 4000000
/-! renamed rules; drawn rules are valid -/
namespace Lw
open PySem PySem.Spec
open PyProof.Rows L2
theorem map_idx_range : ∀ {V : List Int}, V.Nodup → V.map (fun i => ((V.idxOf i : Nat) : Int)) = intsTo V.length := fun {V} h => by
  unfold intsTo
  refine List.ext_getElem (by simp) fun i h1 h2 => ?_
  rw [List.getElem_map, List.getElem_map, List.getElem_range]
  rw [List.length_map] at h1
  congr 1
  exact h.idxOf_getElem i h1
theorem vrs_numd (ts : List Tm) : vrs (numd ts) = intsTo (vrs ts).length := by
  have e := vrs_ren (θ := renT (fun k => (k : Int)) (vrs ts)) (ts := ts) renT_in (inj_idx (f := fun k => (k : Int)) fun a _ b _ e => Int.ofNat.inj e)
  show vrs (ts.map (Tm.sub (renT (fun k => (k : Int)) (vrs ts)))) = _
  rw [e]
  exact map_idx_range (vrs_nodup ts)
/-! ### variables to variables -/
def Ren (θ : Int → Option Tm) : Prop := ∀ i t, θ i = some t → ∃ j, t = .var j
theorem Ren.at' {θ : Int → Option Tm} (h : Ren θ) (i : Int) : ∃ j, (Tm.var i).sub θ = .var j := by
  rw [Tm.sub_var]
  cases e : θ i with
  | none => exact ⟨i, rfl⟩
  | some t => obtain ⟨j, rfl⟩ := h i t e; exact ⟨j, rfl⟩
mutual
theorem Ren.occ {θ : Int → Option Tm} (h : Ren θ) : ∀ t : Tm, (t.sub θ).occ = t.occ.map (Tm.sub θ) ∧ (t.sub θ).size = t.size ∧ (t.sub θ).depth = t.depth
  | .var i => by
    obtain ⟨j, e⟩ := h.at' i
    rw [Tm.occ_var, List.map_cons, e, Tm.occ_var, Tm.size_var, Tm.size_var, Tm.depth_var, Tm.depth_var]
    exact ⟨rfl, rfl, rfl⟩
  | .app n ts => by
    obtain ⟨e1, e2, e3⟩ := Ren.occs h ts
    rw [Tm.occ_app, List.map_cons, Tm.sub_app, Tm.occ_app, e1, Tm.size_app, Tm.size_app, Tm.depth_app, Tm.depth_app, e2, e3]
    exact ⟨rfl, rfl, rfl⟩
theorem Ren.occs {θ : Int → Option Tm} (h : Ren θ) : ∀ ts : List Tm, Tm.occs (Tm.subs θ ts) = (Tm.occs ts).map (Tm.sub θ) ∧ Tm.sizes (Tm.subs θ ts) = Tm.sizes ts ∧ Tm.depths (Tm.subs θ ts) = Tm.depths ts
  | [] => by rw [Tm.subs, Tm.occs_nil, Tm.sizes_nil, Tm.depths_nil]; exact ⟨rfl, rfl, rfl⟩
  | t :: r => by
    obtain ⟨e1, e2, e3⟩ := Ren.occ h t
    obtain ⟨f1, f2, f3⟩ := Ren.occs h r
    rw [Tm.subs, Tm.occs_cons, Tm.occs_cons, Tm.sizes_cons, Tm.sizes_cons, Tm.depths_cons, Tm.depths_cons, List.map_append, e1, e2, e3, f1, f2, f3]
    exact ⟨rfl, rfl, rfl⟩
end
theorem Ren.same {θ : Int → Option Tm} (h : Ren θ) (t : Tm) : (t.sub θ).isA = t.isA ∧ (t.sub θ).nm = t.nm ∧ (t.sub θ).args.length = t.args.length := by
  cases t with
  | var i => obtain ⟨j, e⟩ := h.at' i; rw [e]; exact ⟨rfl, rfl, rfl⟩
  | app n ts =>
    rw [Tm.sub_app]
    refine ⟨rfl, rfl, ?_⟩
    show (Tm.subs θ ts).length = ts.length
    rw [Tm.subs_map, List.length_map]
theorem Ren.apps {θ : Int → Option Tm} (h : Ren θ) (t : Tm) : (t.sub θ).apps = t.apps.map (Tm.sub θ) := by
  unfold Tm.apps
  rw [(h.occ t).1, List.filter_map]
  congr 1
  refine List.filter_congr fun x _ => ?_
  exact (h.same x).1
theorem VAtom_app (n : Str) (ts : List Tm) : VAtom (.app n ts) ↔ (∀ u ∈ (if n = "=" ∧ ts.length = 2 then (Tm.app n ts).apps.drop 1 else (Tm.app n ts).apps), IsName u.nm) ∧ (∀ u ∈ (Tm.app n ts).apps, u.args.length ≤ 8) ∧ (Tm.app n ts).size ≤ 60 ∧ (Tm.app n ts).depth ≤ 12 := Iff.rfl
theorem VAtom.ren {θ : Int → Option Tm} (h : Ren θ) {t : Tm} (v : VAtom t) : VAtom (t.sub θ) := by
  cases t with
  | var i => exact v.elim
  | app n ts =>
    obtain ⟨v1, v2, v3, v4⟩ := v
    have ea := h.apps (.app n ts)
    obtain ⟨_, e2, e3⟩ := h.occ (.app n ts)
    have el : (Tm.subs θ ts).length = ts.length := by rw [Tm.subs_map, List.length_map]
    rw [Tm.sub_app] at ea e2 e3 ⊢
    rw [VAtom_app, el, ea, e2, e3]
    refine ⟨fun u hu => ?_, fun u hu => ?_, v3, v4⟩
    · have : u ∈ (if n = "=" ∧ ts.length = 2 then (Tm.app n ts).apps.drop 1 else (Tm.app n ts).apps).map (Tm.sub θ) := by
        split at hu
        · rename_i c; rw [if_pos c, List.map_drop]; exact hu
        · rename_i c; rw [if_neg c]; exact hu
      obtain ⟨w, hw, rfl⟩ := List.mem_map.mp this
      rw [(h.same w).2.1]
      exact v1 w hw
    · obtain ⟨w, hw, rfl⟩ := List.mem_map.mp hu
      rw [(h.same w).2.2]
      exact v2 w hw
theorem Ren.renT {f : Nat → Int} {V : List Int} : Ren (renT f V) := fun i t e => by
  unfold Lw.renT at e
  split at e
  · exact ⟨_, (Option.some.inj e).symm⟩
  · cases e
theorem Ren.put {θ : Int → Option Tm} (h : Ren θ) (b j : Int) : Ren fun i => if i = b then some (.var j) else θ i := fun i t e => by
  have e : (if i = b then some (Tm.var j) else θ i) = some t := e
  split at e
  · exact ⟨j, (Option.some.inj e).symm⟩
  · exact h i t e
/-! ### drawn atoms are valid -/
theorem Gen.appsOk {zs : List (Str × Int)} {vars : List Tm} (hz : ∀ z ∈ zs, NameOk z.1 ∧ 0 ≤ z.2 ∧ z.2 ≤ 3) (hv : ∀ t ∈ vars, ∃ i, t = Tm.var i) {d : Nat} {t : Tm} (h : Gen zs vars d t) : ∀ u ∈ t.apps, IsName u.nm ∧ u.args.length ≤ 3 := by
  induction h with
  | var h => intro u hu; obtain ⟨i, rfl⟩ := hv _ h; unfold Tm.apps at hu; rw [Tm.occ_var] at hu; simp [Tm.isA] at hu
  | @leaf z n h =>
    intro u hu
    rw [Tm.apps_app, Tm.occs_nil] at hu
    rcases List.mem_cons.mp hu with rfl | hu
    · exact ⟨(hz _ h).1.is, Nat.zero_le _⟩
    · simp at hu
  | @app d z n ts h hl _ ih =>
    intro u hu
    rw [Tm.apps_app] at hu
    rcases List.mem_cons.mp hu with rfl | hu
    · refine ⟨(hz _ h).1.is, ?_⟩
      have := (hz _ h).2.2
      have this : n ≤ 3 := this
      show ts.length ≤ 3
      omega
    · obtain ⟨h1, h2⟩ := List.mem_filter.mp hu
      obtain ⟨t, ht, h1⟩ := Tm.mem_occs.mp h1
      exact ih t ht u (List.mem_filter.mpr ⟨h1, h2⟩)
theorem vatom_mk {n : Str} {ts : List Tm} (hn : IsName n ∨ (n = "=" ∧ ts.length = 2)) (hl : ts.length ≤ 8) (ha : ∀ t ∈ ts, ∀ u ∈ t.apps, IsName u.nm ∧ u.args.length ≤ 8) (hs : (Tm.app n ts).size ≤ 60) (hd : (Tm.app n ts).depth ≤ 12) : VAtom (.app n ts) := by
  have rest : ∀ u ∈ (Tm.occs ts).filter Tm.isA, IsName u.nm ∧ u.args.length ≤ 8 := fun u hu => by
    obtain ⟨h1, h2⟩ := List.mem_filter.mp hu
    obtain ⟨t, ht, h1⟩ := Tm.mem_occs.mp h1
    exact ha t ht u (List.mem_filter.mpr ⟨h1, h2⟩)
  refine ⟨fun u hu => ?_, fun u hu => ?_, hs, hd⟩
  · split at hu
    · rw [Tm.apps_app] at hu
      exact (rest u hu).1
    · rename_i c
      rw [Tm.apps_app] at hu
      rcases List.mem_cons.mp hu with rfl | hu
      · rcases hn with h | h
        · exact h
        · exact absurd h c
      · exact (rest u hu).1
  · rw [Tm.apps_app] at hu
    rcases List.mem_cons.mp hu with rfl | hu
    · exact hl
    · exact (rest u hu).2
/-! ### the renaming of the law -/
def fac : List Int := [1, 3, 7, 255, 4097, 65535]
def renF (f b : Int) (k : Nat) : Int := ((k : Int) * f + b).fmod 65536
theorem renF_nice (f b : Int) (k : Nat) : 0 ≤ renF f b k ∧ renF f b k < 1000000000000 := by
  unfold renF
  rw [Int.fmod_eq_emod_of_nonneg _ (by decide)]
  omega
theorem renF_inj {f b : Int} (hf : f ∈ fac) : ∀ x < 4, ∀ y < 4, renF f b x = renF f b y → x = y := fun x hx y hy e => by
  unfold renF at e
  rw [Int.fmod_eq_emod_of_nonneg _ (by decide), Int.fmod_eq_emod_of_nonneg _ (by decide)] at e
  simp only [fac, List.mem_cons, List.not_mem_nil, or_false] at hf
  rcases hf with rfl | rfl | rfl | rfl | rfl | rfl <;> omega
theorem fac_at {m : Int} (h0 : 0 ≤ m) (h1 : m < 6) : ∃ f, atI (fac.map V.int) m = some (.int f) ∧ f ∈ fac ∧ 0 ≤ f ∧ f ≤ 65535 := by
  have hm : m = 0 ∨ m = 1 ∨ m = 2 ∨ m = 3 ∨ m = 4 ∨ m = 5 := by omega
  rcases hm with rfl | rfl | rfl | rfl | rfl | rfl
  · exact ⟨1, rfl, by decide, by decide, by decide⟩
  · exact ⟨3, rfl, by decide, by decide, by decide⟩
  · exact ⟨7, rfl, by decide, by decide, by decide⟩
  · exact ⟨255, rfl, by decide, by decide, by decide⟩
  · exact ⟨4097, rfl, by decide, by decide, by decide⟩
  · exact ⟨65535, rfl, by decide, by decide, by decide⟩
theorem stem_rule : StemOk "nameOfTheRule" := ⟨by decide +kernel, by decide +kernel, by decide +kernel, by decide +kernel⟩
/-! ### a tuple of the written part -/
def spAlikeK (K : PySem.W.Frag) : Sp := fun vs H Q _ => ∃ (a : Addr) (y : V) (d : PyData) (o : Obj), vs = [.ref a, y] ∧ K.lookup a = some o ∧ o.cls = .type "tuple" ∧ Dp K H (.ref a) d ∧ Dp K H y d ∧ Good d ∧ Tupl H y ∧ ∀ H', Kp [] H H' → Q (.bl true) H'
theorem d_isKT {K : PySem.W.Frag} {H : Hp} {Q : VK} {a : Addr} {o : Obj} (e : K.lookup a = some o) (c : o.cls = .type "tuple") (q : Q (.bl true) H) : rIsi K [.ref a, .ty "tuple"] H Q := ⟨_, _, _, _, true, rfl, .ty _, .kTuple e c, kit_ty k_tt, q⟩
theorem d_listT {K : PySem.W.Frag} {H : Hp} {Q : VK} {p : Addr} {ys : List V} (h : H p = some (.tup ys)) (q : ∀ l, H l = none → Q (.ref l) (upd H l (.lst ys))) : (fun (xs : List V) (H : Hp) (Q : VK) => ∃ p ys, xs = [V.ref p] ∧ (SqL K H p ys ∨ SqT K H p ys) ∧ ∀ l, H l = none → Q (.ref l) (upd H l (.lst ys))) [.ref p] H Q := ⟨p, ys, rfl, .inr (sqT h), q⟩
theorem d_alikeRule {K : PySem.W.Frag} {H : Hp} {Q : VK} {E : XK} {p p' : Addr} {z : Str} {ps : List Tm} {c : Tm} (h : RuleAt H p z ps c) (h' : RuleAt H p' z ps c) (g : Good (ruleD z ps c)) (q : ∀ H', Kp [] H H' → Q (.bl true) H') : spAlikeD K [.ref p, .ref p'] H Q E := by
  obtain ⟨_, _, _, e1, _⟩ := id h
  obtain ⟨_, _, _, e2, _⟩ := id h'
  exact ⟨_, _, _, rfl, h.dp, h'.dp, g, .inr ⟨⟨_, _, rfl, e1⟩, ⟨_, _, rfl, e2⟩⟩, q⟩
theorem txt_refl : TxtOk "refl" := ⟨by decide +kernel, by decide +kernel⟩
theorem refl_good : Good (ruleD "refl" [] (.app "=" [.var 0, .var 0])) := (ruleD_gd (d := 2) (s := 3) txt_refl (fun x hx => by
  rw [List.mem_singleton.mp hx]
  refine ⟨?_, ?_⟩
  · rw [Tm.nice_app, Tm.nices_iff]
    refine ⟨txt_eq, fun u hu => ?_⟩
    have : u = .var 0 := by simpa using hu
    rw [this]; exact (Tm.nice_var 0).mpr (by decide)
  · rw [Tm.depth_app, Tm.depths_cons, Tm.depths_cons, Tm.depths_nil, Tm.depth_var]; decide) (by
  rw [Tm.sizes_cons, Tm.sizes_nil, Tm.size_app, Tm.sizes_cons, Tm.sizes_cons, Tm.sizes_nil, Tm.size_var]; decide)).good (by decide) (by decide)
theorem refl_dp {K : PySem.W.Frag} {H : Hp} {rf re rq : Addr} {t0 t1 t2 t3 : Tok} {n0 n1 n2 : Nat} {d0 d1 d2 : Option Addr} {s0 s1 s2 : Array (Option Value)}
    (e0 : K.lookup rf = some ⟨.type "tuple", d0, .seq #[.str "refl" t0, .ref re, .ref rq] n0, s0⟩)
    (e1 : K.lookup re = some ⟨.type "tuple", d1, .seq #[] n1, s1⟩)
    (e2 : K.lookup rq = some ⟨.type "tuple", d2, .seq #[.str "=" t1, .int 0 t2, .int 0 t3] n2, s2⟩) : Dp K H (.ref rf) (ruleD "refl" [] (.app "=" [.var 0, .var 0])) :=
  .tup (xs := [.str "refl", .ref re, .ref rq]) (.inr ⟨_, _, _, e0, rfl, rfl, smallN (show 3 ≤ 1000000 by decide), .cons ⟨_, rfl⟩ (.cons rfl (.cons rfl .nil))⟩)
    (.cons (.str _) (.cons (.tup (xs := []) (.inr ⟨_, _, _, e1, rfl, rfl, smallN (show 0 ≤ 1000000 by decide), .nil⟩) .nil)
      (.cons (.tup (xs := [.str "=", .int 0, .int 0]) (.inr ⟨_, _, _, e2, rfl, rfl, smallN (show 3 ≤ 1000000 by decide), .cons ⟨_, rfl⟩ (.cons ⟨_, rfl⟩ (.cons ⟨_, rfl⟩ .nil))⟩) (.cons (.str _) (.cons (.int 0) (.cons (.int 0) .nil)))) .nil)))
end Lw
namespace Lw
open PySem PySem.Spec L2
def top (i : Nat) : Stmt := PySem.Challenge.pw_openrules_k15_numbered_rules.main.body.getD i (.Pass ⟨0, 0, 0, 0⟩)
local macro_rules | `(tactic| walk_at "rd1") => `(tactic| first
  | (with_reducible first
    | refine d_c ?_ | refine d_op ?_ | refine d_I0 ?_ | refine d_un ?_ | refine d_nil ?_ | refine d_cons ?_ | refine d_cb ?_ | refine d_ckw ?_ | refine d_call ?_ | refine d_asg ?_ | refine d_seq ?_
    | refine d_next ?_ | refine d_name ?_ | refine d_ret ?_ | refine d_retN ?_ | refine d_drop ?_ | refine d_ifs ?_ | refine d_ifx ?_ | refine d_test ?_ | refine d_tB ?_ | refine d_tnot ?_ | refine d_tand ?_ | refine d_tor ?_
    | refine d_andV ?_ | refine d_orV ?_ | refine d_notV ?_ | refine d_tup ?_ | refine d_lst ?_ | refine d_slice ?_ | refine d_part ?_ | refine d_nopart ?_ | refine d_bm ?_ | refine d_bm0 ?_ | refine d_U ?_ | refine d_sub ?_ | refine d_for ?_ | refine d_rng1 ?_ | refine d_ilist ?_ | refine d_itup ?_ | refine d_lc ?_ | refine d_tru ?_ | refine d_down ?_ | refine d_isII ?_ | refine d_isIT ?_ | refine d_isNT ?_ | refine d_isNI ?_
    | refine ⟨_, rfl, ?_⟩ | refine ⟨_, _, rfl, ?_⟩ | refine .inl ⟨_, rfl, ?_⟩)
  | ((with_reducible refine' d_var ?h ?_); (case h => exact rfl))
  | ((with_reducible refine' d_ixLc ?h ?e ?_); (case h => first | assumption | exact upd_same); (case e => exact rfl))
  | ((with_reducible refine' d_ixTc ?h ?e ?_); (case h => first | assumption | exact upd_same); (case e => exact rfl))
  | ((with_reducible refine' d_tyL ?h ?_); (case h => first | assumption | exact upd_same))
  | ((with_reducible refine' d_lenL ?h ?_); (case h => assumption))
  | ((with_reducible refine' d_lenT ?h ?_); (case h => assumption))
  | ((with_reducible refine' d_tupL ?h ?_); (case h => assumption))
  | ((with_reducible refine' d_isTI ?h ?_); (case h => assumption))
  | ((with_reducible refine' d_isTT ?h ?_); (case h => assumption))
  | ((with_reducible refine' d_truL ?h ?_); (case h => assumption))
  | ((with_reducible refine' d_setL ?h ?e ?_); (case h => first | assumption | exact upd_same); (case e => exact rfl))
  | ((with_reducible refine' d_eq ?h ?_); (case h => exact rfl))
  | ((with_reducible refine' d_ne ?h ?_); (case h => exact rfl))
  | ((with_reducible refine' d_I ?h ?_); (case h => first | decide | exact Or.inl (by decide) | exact Or.inr (by decide) | exact ⟨by decide, by decide, by decide⟩ | assumption | omega)))
local macro_rules | `(tactic| walk_at "rd") => `(tactic| ((repeat walk_at "rd1"); (try dsimp only [Int.reduceToNat, List.set_cons_zero, List.set_cons_succ, List.cons_append, List.nil_append])))
abbrev s_tape : Stmt := top 26
theorem sc_tape : FnScope ["script", "total", "cell"] ["script"] (defScope s_tape) := ⟨rfl, rfl, rfl, by decide +kernel, rfl, by decide +kernel, by decide +kernel⟩
theorem ok_tape {P : Program} {w : World} {K : PySem.W.Frag} {mg : Str → Option Value} {base : Heap} {k : Nat} (D : Df K mg "_law_tape" s_tape ["script"])
    (mi : mg "int" = none) (ma : mg "abs" = none) (ml : mg "list" = none) : Cl P w K mg base (k + 1) "_law_tape" ["script"] (spTape K) := by
  refine D.ok sc_tape (fun vs H Q E h => ?_) (fun f cdv A outer s H vs Q E hr h => ?_)
  · obtain ⟨a, ns, rfl, _⟩ := h
    rfl
  obtain ⟨a, ns, rfl, hS, q⟩ := h
  refine ⟨_, pss_cons (ps_set (i := 1) sc_tape.nd rfl (.inl rfl) pe_int)
    (pss_cons (ps_for PassesOwn.never rfl (pi_list (pv 0)) (pg_name (i := 2) sc_tape.nd rfl (.inl rfl))
      (pss_one (ps_set (i := 1) sc_tape.nd rfl (.inl rfl) (pe_op op_modN (pe_callTy call_int1 (by rfl) mi b_int (pa_cons (pe_op op_add (pe_op op_mul (pv 1) pe_int)
        (pe_callB call_abs (by rfl) ma b_abs (pa_cons (pe_callTy call_int1 (by rfl) mi b_int (pa_cons (pv 2) pa_nil)) pa_nil))) pa_nil)) pe_int))))
    (pss_one (ps_ret (pe_lst (pa_cons (pe_callTy call_list_of (by rfl) ml b_list (pa_cons (pv 0) pa_nil)) (pa_cons pe_int (pa_cons pe_int (pa_cons (pv 1) pa_nil)))))))), ?_⟩
  refine ⟨.ref a, rfl, a, rfl, ⟨_, hS⟩, for_list (K := K) (xs := ns.map V.int) (fun i σ H' => ∃ tot y, σ = [some (.ref a), some (.int tot), y] ∧ H' = H) ⟨7, none, rfl, rfl⟩ (fun i σ H' hi ⟨tot, y, e1, e2⟩ => by rw [e2]; exact hS) (fun i x σ H' hx ⟨tot, y, e1, e2⟩ => ?_) (fun σ H' ⟨tot, y, e1, e2⟩ => ?_)⟩
  · subst e1 e2
    obtain ⟨n, rfl⟩ : ∃ n, x = .int n := by
      rw [List.getElem?_map] at hx
      cases e : ns[i]? with
      | none => rw [e] at hx; cases hx
      | some n => rw [e] at hx; exact ⟨n, (Option.some.inj hx).symm⟩
    walk_at "rd"
  · subst e1 e2
    walk_at "rd"
    refine ⟨a, _, rfl, .inl hS, fun sc hsc => ?_⟩
    walk_at "rd"
    refine ⟨smallN (by show 4 ≤ 1000000; decide), fun t ht => ?_⟩
    have hne : sc ≠ t := fun z => by rw [← z, upd_same] at ht; cases ht
    have ht0 : H' t = none := by rw [upd_ne (Ne.symm hne)] at ht; exact ht
    refine q _ t sc ((Kp.new hsc).trans (Kp.new ht)) ht0 hsc ⟨⟨0, 0, tot, Int.le_refl _, upd_same⟩, ?_, hne⟩
    rw [upd_ne hne, upd_same]

abbrev s_draw : Stmt := top 27
theorem sc_draw : FnScope ["tape", "many", "place", "number"] ["tape", "many"] (defScope s_draw) := ⟨rfl, rfl, rfl, by decide +kernel, rfl, by decide +kernel, by decide +kernel⟩
theorem ok_draw {P : Program} {w : World} {K : PySem.W.Frag} {mg : Str → Option Value} {base : Heap} {k : Nat} (D : Df K mg "_law_draw" s_draw ["tape", "many"])
    (mi : mg "int" = none) (ma : mg "abs" = none) (ml : mg "len" = none) (mx : mg "max" = none) : Cl P w K mg base (k + 1) "_law_draw" ["tape", "many"] spDraw := by
  refine D.ok sc_draw (fun vs H Q E h => ?_) (fun f cdv A outer s H vs Q E hr h => ?_)
  · obtain ⟨t, sc, ns, many, rfl, _⟩ := h
    rfl
  obtain ⟨t, sc, ns, many, rfl, T, m0, m1, q⟩ := h
  refine ⟨_, pss_cons (ps_if (pt_cmpR op_eq (pe_ix ix_list (pv 0) pe_int (fun _ _ => rfl)) pe_int (nomark _))
      (pss_cons (ps_set (i := 2) sc_draw.nd rfl (.inl rfl) (pe_ix ix_list (pv 0) pe_int (fun _ _ => rfl)))
      (pss_cons (ps_set (i := 3) sc_draw.nd rfl (.inl rfl) pe_int)
      (pss_cons (ps_if (pt_cmpR op_lt (pv 2) (pe_callB call_len_seq (by rfl) ml b_len (pa_cons (pe_ix ix_list (pv 0) pe_int (fun _ _ => rfl)) pa_nil)) (nomark _))
        (pss_one (ps_set (i := 3) sc_draw.nd rfl (.inl rfl) (pe_callB call_abs (by rfl) ma b_abs (pa_cons (pe_callTy call_int1 (by rfl) mi b_int (pa_cons (pe_ix ix_list (pe_ix ix_list (pv 0) pe_int (fun _ _ => rfl)) (pv 2) (fun _ _ => rfl)) pa_nil)) pa_nil))))
        (pss_cons (ps_asg (pe_op op_modN (pe_callTy call_int1 (by rfl) mi b_int (pa_cons (pe_op op_add (pe_op op_add (pe_op op_mul (pe_ix ix_list (pv 0) pe_int (fun _ _ => rfl)) pe_int) (pv 2)) pe_int) pa_nil)) pe_int) (pg_sub (pv 0) pe_int set_list))
        (pss_one (ps_set (i := 3) sc_draw.nd rfl (.inl rfl) (pe_ix ix_list (pv 0) pe_int (fun _ _ => rfl))))))
      (pss_cons (ps_asg (pe_op op_add (pv 2) pe_int) (pg_sub (pv 0) pe_int set_list))
      (pss_cons (ps_if (pt_cmpR op_lt (pv 3) (pe_op op_pow pe_int pe_int) (nomark _))
        (pss_cons (ps_set (i := 3) sc_draw.nd rfl (.inl rfl) (pe_op op_modN (pe_callTy call_int1 (by rfl) mi b_int (pa_cons (pe_op op_add (pe_op op_add (pe_op op_mul (pv 3) pe_int) (pe_op op_mul (pv 2) pe_int)) pe_int) pa_nil)) pe_int))
        (pss_cons (ps_set (i := 3) sc_draw.nd rfl (.inl rfl) (pe_op op_modN (pe_callTy call_int1 (by rfl) mi b_int (pa_cons (pe_op op_mul (pv 3) pe_int) pa_nil)) pe_int))
        (pss_one (ps_ret (pe_op op_modN (pe_callTy call_int1 (by rfl) mi b_int (pa_cons (pv 3) pa_nil)) (pe_callB (call_max2 rfl) (by rfl) mx b_max (pa_cons (pv 1) (pa_cons pe_int pa_nil)))))))) pss_nil)
      (pss_one (ps_asg (pv 3) (pg_sub (pv 0) pe_int set_list)))))))) pss_nil)
    (pss_cons (ps_set (i := 3) sc_draw.nd rfl (.inl rfl) (pe_ix ix_list (pv 0) pe_int (fun _ _ => rfl)))
    (pss_cons (ps_asg (pe_op op_fdivN (pv 3) (pe_callB (call_max2 rfl) (by rfl) mx b_max (pa_cons (pv 1) (pa_cons pe_int pa_nil)))) (pg_sub (pv 0) pe_int set_list))
    (pss_one (ps_ret (pe_op op_modN (pe_callTy call_int1 (by rfl) mi b_int (pa_cons (pv 3) pa_nil)) (pe_callB (call_max2 rfl) (by rfl) mx b_max (pa_cons (pv 1) (pa_cons pe_int pa_nil)))))))), ?_⟩
  obtain ⟨⟨pl, pd, sd, h0, hT⟩, hS, ne⟩ := T
  have mx1 : (if (1 : Int) > many then 1 else many) = max many 1 := by split <;> omega
  have mx2 : (if (2 : Int) > many then 2 else many) ≠ 0 ∧ (if (2 : Int) > many then 2 else many).natAbs < 1073741824 := by split <;> omega
  have fin : ∀ (H' : Hp) (n : Int), Kp [t] H H' → TapeAt H' t sc ns → Q (.int (n.fmod (max many 1))) H' := fun H' n k T => by
    have hp : (0 : Int) < max many 1 := by omega
    rw [Int.fmod_eq_emod_of_nonneg n (Int.le_of_lt hp)]
    exact q H' _ k T (Int.emod_nonneg n (by omega)) (Int.emod_lt_of_pos n hp)
  rw [show L2.start ["tape", "many", "place", "number"] [.ref t, .int many] = [some (.ref t), some (.int many), none, none] from rfl]
  walk_at "rd"
  have hp1 : max many 1 ≠ 0 := by omega
  refine ite_bl (fun c => ?_) (fun c => ?_)
  · walk_at "rd"
    refine ⟨sc, _, rfl, .inl (sqL hS), ?_⟩
    walk_at "rd"
    rw [List.length_map]
    refine ite_dc (fun c1 => ?_) (fun c1 => ?_)
    · have hi : pl.toNat < ns.length := by omega
      have e1 : atI (ns.map V.int) pl = some (.int ns[pl.toNat]) := atI_of h0 (by rw [List.getElem?_map, List.getElem?_eq_getElem hi]; rfl)
      walk_at "rd"
      refine d_ixLc hS e1 ?_
      walk_at "rd"
      generalize (if ns[pl.toNat] < 0 then -ns[pl.toNat] else ns[pl.toNat]) = n
      have k1 : Kp [t] H (upd H t (.lst [.ref sc, .int (pl + 1), .int pd, .int sd])) := Kp.put (by simp)
      have T1 : (upd H t (.lst [.ref sc, .int (pl + 1), .int pd, .int sd])) t = some (.lst [.ref sc, .int (pl + 1), .int pd, .int sd]) := upd_same
      have S1 : (upd H t (.lst [.ref sc, .int (pl + 1), .int pd, .int sd])) sc = some (.lst (ns.map V.int)) := by rw [upd_ne ne]; exact hS
      revert k1 T1 S1
      generalize (upd H t (.lst [.ref sc, .int (pl + 1), .int pd, .int sd])) = H1
      revert H1 n
      generalize sd = sd2
      revert sd2
      intro sd2 n H1 k1 T1 S1
      refine ite_dc (fun c2 => ?_) (fun c2 => ?_)
      · walk_at "rd"
        rw [mx1]
        walk_at "rd"
        exact fin H1 _ k1 ⟨⟨pl + 1, pd, sd2, by omega, T1⟩, S1, ne⟩
      · walk_at "rd"
        rw [mx1]
        walk_at "rd"
        refine fin _ _ ((k1.trans (Kp.put (by simp))).trans (Kp.put (by simp))) ⟨⟨pl + 1, n.fdiv (if (2 : Int) > many then 2 else many), sd2, by omega, upd_same⟩, ?_, ne⟩
        rw [upd_ne ne, upd_ne ne]
        exact S1
    · walk_at "rd"
      generalize (sd * 48271 + pl + 1).fmod 2147483647 = sd2
      rw [upd_upd]
      have k1 : Kp [t] H (upd H t (.lst [.ref sc, .int (pl + 1), .int pd, .int sd2])) := Kp.put (by simp)
      have T1 : (upd H t (.lst [.ref sc, .int (pl + 1), .int pd, .int sd2])) t = some (.lst [.ref sc, .int (pl + 1), .int pd, .int sd2]) := upd_same
      have S1 : (upd H t (.lst [.ref sc, .int (pl + 1), .int pd, .int sd2])) sc = some (.lst (ns.map V.int)) := by rw [upd_ne ne]; exact hS
      revert k1 T1 S1
      generalize (upd H t (.lst [.ref sc, .int (pl + 1), .int pd, .int sd2])) = H1
      intro k1 T1 S1
      refine ite_dc (fun c2 => ?_) (fun c2 => ?_)
      · walk_at "rd"
        rw [mx1]
        walk_at "rd"
        exact fin H1 _ k1 ⟨⟨pl + 1, pd, sd2, by omega, T1⟩, S1, ne⟩
      · walk_at "rd"
        rw [mx1]
        walk_at "rd"
        refine fin _ _ ((k1.trans (Kp.put (by simp))).trans (Kp.put (by simp))) ⟨⟨pl + 1, sd2.fdiv (if (2 : Int) > many then 2 else many), sd2, by omega, upd_same⟩, ?_, ne⟩
        rw [upd_ne ne, upd_ne ne]
        exact S1
  · walk_at "rd"
    rw [mx1]
    walk_at "rd"
    refine fin _ _ (Kp.put (by simp)) ⟨⟨pl, pd.fdiv (if (2 : Int) > many then 2 else many), sd, h0, upd_same⟩, ?_, ne⟩
    rw [upd_ne ne]
    exact hS

abbrev s_word : Stmt := top 28
theorem sc_word : FnScope ["tape", "stem", "letters", "signs", "number", "word", "length"] ["tape", "stem"] (defScope s_word) := ⟨rfl, rfl, rfl, by decide +kernel, rfl, by decide +kernel, by decide +kernel⟩
theorem lets_ok : ∀ c ∈ (Str.ofString "abcdefghijklmnopqrstuvwxyz").cps.toList, smallC c := by decide +kernel
theorem lets_len : (Str.ofString "abcdefghijklmnopqrstuvwxyz").cps.toList.length = 26 := by decide +kernel
theorem sgns_ok : ∀ c ∈ (Str.ofString "ABCDEFGHIJKLMNOPQRSTUVWXYZ0123456789").cps.toList, signC c := by decide +kernel
theorem sgns_len : (Str.ofString "ABCDEFGHIJKLMNOPQRSTUVWXYZ0123456789").cps.toList.length = 36 := by decide +kernel
theorem ok_word {P : Program} {w : World} {K : PySem.W.Frag} {mg : Str → Option Value} {base : Heap} {k : Nat} (D : Df K mg "_law_word" s_word ["tape", "stem"])
    (cD : Cl P w K mg base k "_law_draw" ["tape", "many"] spDraw) (mi : mg "int" = none) : Cl P w K mg base (k + 1) "_law_word" ["tape", "stem"] spWord := by
  refine D.ok sc_word (fun vs H Q E h => ?_) (fun f cdv A outer s H vs Q E hr h => ?_)
  · obtain ⟨t, sc, ns, z, rfl, _⟩ := h
    rfl
  obtain ⟨t, sc, ns, stem, rfl, T, hs, q⟩ := h
  refine ⟨_, pss_cons (ps_set (i := 2) sc_word.nd rfl (.inl rfl) pe_str)
    (pss_cons (ps_set (i := 3) sc_word.nd rfl (.inl rfl) (pe_op op_add_str (pv 2) pe_str))
    (pss_cons (ps_set (i := 4) sc_word.nd rfl (.inl rfl) (pe_cl cD hr (Nat.le_refl _) (by rfl) (pa_cons (pv 0) (pa_cons (pe_op op_mul (pe_op op_mul (pe_op op_mul pe_int pe_int) pe_int) pe_int) pa_nil))))
    (pss_cons (ps_set (i := 5) sc_word.nd rfl (.inl rfl) (pe_op op_add_str (pe_op op_add_str
        (pe_ix ix_str (pv 2) (pe_op op_modN (pe_callTy call_int1 (by rfl) mi b_int (pa_cons (pv 4) pa_nil)) pe_int) (fun _ _ => rfl))
        (pe_ix ix_str (pv 3) (pe_op op_modN (pe_callTy call_int1 (by rfl) mi b_int (pa_cons (pe_op op_fdivN (pv 4) pe_int) pa_nil)) pe_int) (fun _ _ => rfl)))
        (pe_ix ix_str (pv 3) (pe_op op_modN (pe_callTy call_int1 (by rfl) mi b_int (pa_cons (pe_op op_fdivN (pv 4) pe_int) pa_nil)) pe_int) (fun _ _ => rfl))))
    (pss_cons (ps_set (i := 6) sc_word.nd rfl (.inl rfl) (pe_op op_modN (pe_callTy call_int1 (by rfl) mi b_int (pa_cons (pe_op op_fdivN (pv 4) pe_int) pa_nil)) pe_int))
    (pss_cons (ps_if (pt_cmpR op_eq (pv 6) pe_int (nomark _)) (pss_one (ps_ret (pe_slice sl_str (pe_op op_add_str (pv 1) (pv 5)) po_none (po_some pe_int)))) pss_nil)
    (pss_one (ps_ret (pe_slice sl_str (pv 5) po_none (po_some (pe_op op_add pe_int (pv 6))))))))))), ?_⟩
  rw [show L2.start ["tape", "stem", "letters", "signs", "number", "word", "length"] [.ref t, .str stem] = [some (.ref t), some (.str stem), none, none, none, none, none] from rfl]
  have hl1 : (Str.ofString "abcdefghijklmnopqrstuvwxyz").length = 26 := by rw [str_len]; exact lets_len
  have hl2 : (Str.ofString "ABCDEFGHIJKLMNOPQRSTUVWXYZ0123456789").length = 36 := by rw [str_len]; exact sgns_len
  have sg : ∀ c ∈ (Str.ofString "abcdefghijklmnopqrstuvwxyz" ++ Str.ofString "ABCDEFGHIJKLMNOPQRSTUVWXYZ0123456789").cps.toList, signC c := fun c hc => by
    rw [str_app] at hc
    rcases List.mem_append.mp hc with hc | hc
    · exact .inl (lets_ok c hc)
    · exact sgns_ok c hc
  have sgl : (Str.ofString "abcdefghijklmnopqrstuvwxyz" ++ Str.ofString "ABCDEFGHIJKLMNOPQRSTUVWXYZ0123456789").cps.toList.length = 62 := by rw [str_app, List.length_append, lets_len, sgns_len]
  have sgl2 : (Str.ofString "abcdefghijklmnopqrstuvwxyz" ++ Str.ofString "ABCDEFGHIJKLMNOPQRSTUVWXYZ0123456789").length = 62 := by rw [str_len]; exact sgl
  have md : ∀ (n m : Int), 0 < m → 0 ≤ n.fmod m ∧ n.fmod m < m := fun n m hm => by
    rw [Int.fmod_eq_emod_of_nonneg n (Int.le_of_lt hm)]
    exact ⟨Int.emod_nonneg n (by omega), Int.emod_lt_of_pos n hm⟩
  walk_at "rd"
  refine ⟨_, _, rfl, rfl, smallN (by rw [hl1, hl2]; decide), ?_⟩
  walk_at "rd"
  refine ⟨t, sc, ns, _, rfl, T, by decide, by decide, fun H1 n k1 T1 n0 _ => ?_⟩
  walk_at "rd"
  obtain ⟨c1, e1, p1⟩ := atI_all lets_ok (md n 26 (by decide)).1 (by rw [lets_len]; exact (md n 26 (by decide)).2)
  obtain ⟨c2, e2, p2⟩ := atI_all sg (md (n.fdiv 26) 62 (by decide)).1 (by rw [sgl]; exact (md (n.fdiv 26) 62 (by decide)).2)
  obtain ⟨c3, e3, p3⟩ := atI_all sg (md (n.fdiv 1612) 62 (by decide)).1 (by rw [sgl]; exact (md (n.fdiv 1612) 62 (by decide)).2)
  refine ⟨_, _, c1, rfl, rfl, smallN (by rw [hl1]; decide), e1, ?_⟩
  walk_at "rd"
  refine d_I ⟨by decide, by decide⟩ ?_
  walk_at "rd"
  refine ⟨_, _, c2, rfl, rfl, smallN (by rw [sgl2]; decide), e2, ?_⟩
  refine ⟨_, _, rfl, rfl, smallN (show 1 + 1 ≤ 1000000 by decide), ?_⟩
  walk_at "rd"
  refine d_I ⟨by decide, by decide⟩ ?_
  walk_at "rd"
  refine ⟨_, _, c3, rfl, rfl, smallN (by rw [sgl2]; decide), e3, ?_⟩
  refine ⟨_, _, rfl, rfl, smallN (show 2 + 1 ≤ 1000000 by decide), ?_⟩
  generalize hw : (Str.mk #[c1] ++ Str.mk #[c2] ++ Str.mk #[c3]) = wd
  have wl : wd.cps.toList = [c1, c2, c3] := by rw [← hw]; rfl
  have wl3 : wd.length = 3 := by rw [str_len, wl]; rfl
  walk_at "rd"
  refine d_I ⟨by decide, by decide⟩ ?_
  walk_at "rd"
  have ml := md (n.fdiv 99944) 4 (by decide)
  generalize (n.fdiv 99944).fmod 4 = m at ml
  refine ite_bl (fun c => ?_) (fun c => ?_)
  · walk_at "rd"
    have sl : stem.length = stem.cps.toList.length := str_len stem
    refine ⟨_, _, rfl, rfl, smallN (by rw [wl3]; have := hs.le; omega), ?_⟩
    walk_at "rd"
    have el : (stem ++ wd).cps.toList = stem.cps.toList ++ [c1, c2, c3] := by rw [str_app, wl]
    refine ⟨_, rfl, smallN (by rw [str_len, el, List.length_append]; have := hs.le; show _ + 3 ≤ _; omega), ?_⟩
    refine q H1 _ k1 T1 (name_take (l := stem.cps.toList ++ [c1, c2, c3]) (n := 16) ((cut_take _ 16 (by decide)).trans (by rw [el]; rfl)) (by decide) (by decide) (by rw [List.length_append]; show 0 < _ + 3; omega) (by rw [List.length_take, List.length_append]; show min 16 (_ + 3) ≤ 3 ∨ min 16 (_ + 3) = 16; have := hs.len; omega) (fun x hx => ?_) (fun x hx => ?_))
    · cases hst : stem.cps.toList with
      | nil => rw [hst] at hx; cases hx; exact p1
      | cons y r => rw [hst] at hx; exact hs.first x (by rw [hst]; exact hx)
    · rcases List.mem_append.mp hx with hx | hx
      · exact hs.all x hx
      · rcases List.mem_cons.mp hx with rfl | hx
        · exact .inl p1
        · rcases List.mem_cons.mp hx with rfl | hx
          · exact p2
          · rcases List.mem_cons.mp hx with rfl | hx
            · exact p3
            · cases hx
  · walk_at "rd"
    refine ⟨_, rfl, smallN (by rw [wl3]; decide), ?_⟩
    refine q H1 _ k1 T1 (name_take (l := [c1, c2, c3]) (n := (1 + m).toNat) ((cut_take _ (1 + m) (by omega)).trans (by rw [wl])) (by omega) (by omega) (show 0 < 3 by decide) (.inl (by rw [List.length_take]; show min _ 3 ≤ 3; omega)) (fun x hx => ?_) (fun x hx => ?_))
    · cases hx; exact p1
    · rcases List.mem_cons.mp hx with rfl | hx
      · exact .inl p1
      · rcases List.mem_cons.mp hx with rfl | hx
        · exact p2
        · rcases List.mem_cons.mp hx with rfl | hx
          · exact p3
          · cases hx

abbrev s_symbols : Stmt := top 29
theorem sc_symbols : FnScope ["tape", "many", "stem", "symbols", "k", "name"] ["tape", "many"] (defScope s_symbols) := ⟨rfl, rfl, rfl, by decide +kernel, rfl, by decide +kernel, by decide +kernel⟩
theorem stem0 : StemOk (Str.ofString "") := ⟨by decide +kernel, by intro c h; exact absurd h (by decide +kernel +revert), by decide +kernel, by decide +kernel⟩
theorem stem1 : StemOk (Str.ofString "constructorOf") := ⟨by decide +kernel, fun c h => by
  have e : (Str.ofString "constructorOf").cps.toList[0]? = some 99 := by decide +kernel
  rw [e] at h; cases h; decide, by decide +kernel, by decide +kernel⟩
theorem ok_symbols {P : Program} {w : World} {K : PySem.W.Frag} {mg : Str → Option Value} {base : Heap} {k : Nat} (D : Df K mg "_law_symbols" s_symbols ["tape", "many"])
    (cD : Cl P w K mg base k "_law_draw" ["tape", "many"] spDraw) (cW : Cl P w K mg base k "_law_word" ["tape", "stem"] spWord) (mr : mg "range" = none) : Cl P w K mg base (k + 1) "_law_symbols" ["tape", "many"] spSymbols := by
  refine D.ok sc_symbols (fun vs H Q E h => ?_) (fun f cdv A outer s H vs Q E hr h => ?_)
  · obtain ⟨t, sc, ns, z, rfl, _⟩ := h
    rfl
  obtain ⟨t, sc, ns, many, rfl, T, m1, m2, q⟩ := h
  refine ⟨_, pss_cons (ps_set (i := 2) sc_symbols.nd rfl (.inl rfl) (pe_ix ix_list (pe_lst (pa_cons pe_str (pa_cons pe_str pa_nil))) (pe_cl cD hr (Nat.le_refl _) (by rfl) (pa_cons (pv 0) (pa_cons pe_int pa_nil))) (fun _ _ => rfl)))
    (pss_cons (ps_set (i := 3) sc_symbols.nd rfl (.inl rfl) (pe_lst pa_nil))
    (pss_cons (ps_for PassesOwn.never rfl (pi_range1 (by rfl) mr (pa_cons (pv 1) pa_nil)) (pg_name (i := 4) sc_symbols.nd rfl (.inl rfl))
      (pss_cons (ps_set (i := 5) sc_symbols.nd rfl (.inl rfl) (pe_cl cW hr (Nat.le_refl _) (by rfl) (pa_cons (pv 0) (pa_cons (pv 2) pa_nil))))
      (pss_one (ps_expr (pe_bm PySem.F.plainAttrs_list PySem.F.slot_list_append PySem.F.type_list_append mt_append (pv 3)
        (pa_cons (pe_tup (pa_cons (pv 5) (pa_cons (pe_ix ix_list (pe_lst (pa_cons pe_int (pa_cons pe_int (pa_cons pe_int (pa_cons pe_int (pa_cons pe_int (pa_cons pe_int pa_nil)))))))
          (pe_cl cD hr (Nat.le_refl _) (by rfl) (pa_cons (pv 0) (pa_cons pe_int pa_nil))) (fun _ _ => rfl)) pa_nil))) pa_nil))))))
    (pss_cons (ps_expr (pe_bm PySem.F.plainAttrs_list PySem.F.slot_list_append PySem.F.type_list_append mt_append (pv 3)
        (pa_cons (pe_tup (pa_cons (pe_ix ix_tup (pe_ix ix_list (pv 3) pe_int (fun _ _ => rfl)) pe_int (fun _ _ => rfl)) (pa_cons pe_int pa_nil))) pa_nil)))
    (pss_one (ps_ret (pv 3)))))), ?_⟩
  rw [show L2.start ["tape", "many", "stem", "symbols", "k", "name"] [.ref t, .int many] = [some (.ref t), some (.int many), none, none, none, none] from rfl]
  walk_at "rd"
  refine ⟨smallN (show 2 ≤ 1000000 by decide), fun l hl => ?_⟩
  walk_at "rd"
  have k0 : Kp [t] H (upd H l (.lst [.str "", .str "constructorOf"])) := Kp.new hl
  have T0 := (T.nil (Kp.new (o := .lst [.str "", .str "constructorOf"]) hl))
  refine ⟨t, sc, ns, _, rfl, T0, by decide, by decide, fun H1 n k1 T1 n0 n1 => ?_⟩
  have hl1 : H1 l = some (.lst [.str "", .str "constructorOf"]) := k1 l _ (fun z => by rcases List.mem_cons.mp z with z | z; exact T.t_some hl z.symm; cases z) upd_same
  obtain ⟨stem, hs, e1⟩ : ∃ stem : Str, StemOk stem ∧ atI [V.str "", V.str "constructorOf"] n = some (.str stem) := by
    have hn : n = 0 ∨ n = 1 := by omega
    rcases hn with rfl | rfl
    · exact ⟨_, stem0, rfl⟩
    · exact ⟨_, stem1, rfl⟩
  refine d_ixLc hl1 e1 ?_
  have kk : Kp [t] H H1 := k0.trans k1
  walk_at "rd"
  refine ⟨Nat.zero_le _, fun p hp => ?_⟩
  walk_at "rd"
  refine ⟨by omega, by omega, ?_⟩
  have pt : p ≠ t := fun z => T1.t_some hp z.symm
  have ps : p ≠ sc := fun z => T1.s_some hp z.symm
  have kp0 : Kp [p, t] H1 (upd H1 p (.lst [])) := Kp.new hp
  have np : p ∉ [t] := fun z => by rcases List.mem_cons.mp z with z | z; exact pt z; cases z
  refine fr_range (fun i σ H2 => ∃ zs k5 k6, σ = [some (.ref t), some (.int many), some (.str stem), some (.ref p), k5, k6] ∧ Kp [p, t] H1 H2 ∧ TapeAt H2 t sc ns ∧ SymsAt H2 p zs ∧ zs.length = i)
    ⟨[], none, none, rfl, kp0, T1.nil (Kp.new hp), SymsAt.nil upd_same, rfl⟩ (fun i σ H2 hi h2 => ?_) (fun σ H2 h2 => ?_)
  · obtain ⟨zs, k5, k6, rfl, k2, T2, S2, len2⟩ := h2
    walk_at "rd"
    refine ⟨t, sc, ns, stem, rfl, T2, hs, fun H3 z k3 T3 nz => ?_⟩
    have S3 := S2.tape T2 k3 pt
    obtain ⟨rs3, e3, _, _⟩ := S3.is
    walk_at "rd"
    refine ⟨smallN (show 6 ≤ 1000000 by decide), fun l2 hl2 => ?_⟩
    walk_at "rd"
    have k4 : Kp [t] H3 (upd H3 l2 (.lst [.int 0, .int 1, .int 2, .int 0, .int 1, .int 3])) := Kp.new hl2
    have T4 := T3.nil (Kp.new (o := .lst [.int 0, .int 1, .int 2, .int 0, .int 1, .int 3]) hl2)
    have S4 := S3.tape T3 k4 pt
    have nl : l2 ≠ t := fun z => T3.t_some hl2 z.symm
    refine ⟨t, sc, ns, _, rfl, T4, by decide, by decide, fun H5 n5 k5' T5 m0 m1 => ?_⟩
    have S5 := S4.tape T4 k5' pt
    have hl5 := kept_at k5' nl upd_same
    obtain ⟨ar, e5, a0, a3⟩ : ∃ ar : Int, atI [V.int 0, V.int 1, V.int 2, V.int 0, V.int 1, V.int 3] n5 = some (.int ar) ∧ 0 ≤ ar ∧ ar ≤ 3 := by
      have hn : n5 = 0 ∨ n5 = 1 ∨ n5 = 2 ∨ n5 = 3 ∨ n5 = 4 ∨ n5 = 5 := by omega
      rcases hn with rfl | rfl | rfl | rfl | rfl | rfl
      · exact ⟨_, rfl, by decide, by decide⟩
      · exact ⟨_, rfl, by decide, by decide⟩
      · exact ⟨_, rfl, by decide, by decide⟩
      · exact ⟨_, rfl, by decide, by decide⟩
      · exact ⟨_, rfl, by decide, by decide⟩
      · exact ⟨_, rfl, by decide, by decide⟩
    refine d_ixLc hl5 e5 ?_
    walk_at "rd"
    refine ⟨smallN (show 2 ≤ 1000000 by decide), fun r hr5 => ?_⟩
    have k6' : Kp [t] H5 (upd H5 r (.tup [.str z, .int ar])) := Kp.new hr5
    have S6 := S5.tape T5 k6' pt
    have T6 := T5.nil (Kp.new (o := .tup [.str z, .int ar]) hr5)
    obtain ⟨rs6, e6, l6, _⟩ := S6.is
    walk_at "rd"
    refine d_app e6 (by rw [List.length_map, l6, len2]; omega) ?_
    refine ⟨zs ++ [(z, ar)], _, _, rfl, ?_, ?_, S6.push e6 upd_same nz a0 a3, by rw [List.length_append, len2]; rfl⟩
    · exact k2.trans ((((k3.trans k4).trans k5').trans k6').mono (fun b hb => List.mem_cons_of_mem _ hb) |>.trans (Kp.put (by simp)))
    · exact T6.keep (l := [p]) (Kp.put (by simp)) (by simpa using Ne.symm pt) (by simpa using Ne.symm ps)
  · obtain ⟨zs, k5, k6, rfl, k2, T2, S2, len2⟩ := h2
    obtain ⟨xs, r, z, ar, e2, lx, ex, er, nz, a0, a3, _⟩ := S2.get (k := 0) (Int.le_refl _) (by omega)
    walk_at "rd"
    refine d_ixLc e2 ex ?_
    walk_at "rd"
    refine ⟨smallN (show 2 ≤ 1000000 by decide), fun r2 hr2 => ?_⟩
    have k6' : Kp [t] H2 (upd H2 r2 (.tup [.str z, .int 0])) := Kp.new hr2
    have S6 := S2.tape T2 k6' pt
    have T6 := T2.nil (Kp.new (o := .tup [.str z, .int 0]) hr2)
    have e6 := kept_at k6' pt e2
    walk_at "rd"
    refine d_app e6 (by rw [lx, len2]; omega) ?_
    walk_at "rd"
    have kf : Kp [p, t] H1 (upd (upd H2 r2 (.tup [.str z, .int 0])) p (.lst (xs ++ [.ref r2]))) := (k2.trans (k6'.mono fun b hb => List.mem_cons_of_mem _ hb)).trans (Kp.put (by simp))
    refine q _ p (zs ++ [(z, 0)]) (kk.trans (kf.less hp)) (T6.keep (l := [p]) (Kp.put (by simp)) (by simpa using Ne.symm pt) (by simpa using Ne.symm ps)) (fresh_of kk T1 hp) (S6.push e6 upd_same nz (by decide) (by decide)) ?_
    rw [List.length_append, len2]
    show ((many.toNat + 1 : Nat) : Int) = _
    omega

abbrev s_term : Stmt := top 30
theorem sc_term : FnScope ["tape", "symbols", "variables", "depth", "choice", "symbol", "k"] ["tape", "symbols", "variables", "depth"] (defScope s_term) := ⟨rfl, rfl, rfl, by decide +kernel, rfl, by decide +kernel, by decide +kernel⟩
theorem ok_term1 {P : Program} {w : World} {K : PySem.W.Frag} {mg : Str → Option Value} {base : Heap} {k : Nat} {m : Nat} {sp : Sp} (D : Df K mg "_law_term" s_term ["tape", "symbols", "variables", "depth"])
    (cD : Cl P w K mg base k "_law_draw" ["tape", "many"] spDraw) (cT : Cl P w K mg base k "_law_term" ["tape", "symbols", "variables", "depth"] sp) (hsp : ∀ e, e + 1 ≤ m → ∀ vs H Q E, spTerm e vs H Q E → sp vs H Q E)
    (ml : mg "len" = none) (mr : mg "range" = none) (mt : mg "tuple" = none) : Cl P w K mg base (k + 1) "_law_term" ["tape", "symbols", "variables", "depth"] (spTermLe m) := by
  refine D.ok sc_term (fun vs H Q E h => ?_) (fun f cdv A outer s H vs Q E hr h => ?_)
  · obtain ⟨d, _, t, sc, sy, va, ns, zs, vars, rfl, _⟩ := h
    rfl
  obtain ⟨d, dm, t, sc, sy, va, ns, zs, vars, rfl, T, S, z1, z2, Va, v2, q⟩ := h
  refine ⟨_, pss_cons (ps_set (i := 4) sc_term.nd rfl (.inl rfl) (pe_cl cD hr (Nat.le_refl _) (by rfl) (pa_cons (pv 0) (pa_cons (pe_op op_add
      (pe_callB c_len (by rfl) ml b_len (pa_cons (pv 1) pa_nil)) (pe_callB c_len (by rfl) ml b_len (pa_cons (pv 2) pa_nil))) pa_nil))))
    (pss_cons (ps_if (pt_cmpR op_lt (pv 4) (pe_callB c_len (by rfl) ml b_len (pa_cons (pv 2) pa_nil)) (nomark _)) (pss_one (ps_ret (pe_ix ix_list (pv 2) (pv 4) (fun _ _ => rfl)))) pss_nil)
    (pss_cons (ps_set (i := 5) sc_term.nd rfl (.inl rfl) (pe_ix ix_list (pv 1) (pe_op op_sub (pv 4) (pe_callB c_len (by rfl) ml b_len (pa_cons (pv 2) pa_nil))) (fun _ _ => rfl)))
    (pss_cons (ps_if (pt_cmpR op_le (pv 3) pe_int (nomark _)) (pss_one (ps_ret (pe_tup (pa_cons (pe_ix ix_tup (pv 5) pe_int (fun _ _ => rfl)) pa_nil)))) pss_nil)
    (pss_one (ps_ret (pe_op op_catT (pe_tup (pa_cons (pe_ix ix_tup (pv 5) pe_int (fun _ _ => rfl)) pa_nil))
      (pe_callTy c_tup (by rfl) mt b_tuple (pa_cons (pe_lc (own := [("k", 6)]) (g := gName 6) (by rfl) sc_term.nd (pi_range1 (by rfl) mr (pa_cons (pe_ix ix_tup (pv 5) pe_int (fun _ _ => rfl)) pa_nil))
        (blkOk_by (own := [("k", 6)]) (N := ["tape", "symbols", "variables", "depth", "choice", "symbol", "k"]) (sc := defScope s_term) (by decide +kernel)) (fun _ _ _ _ _ => pg_name (i := 6) sc_term.nd rfl (Or.inl rfl)) (fun _ _ _ _ _ => pts_nil)
        (fun _ _ _ _ _ => pe_cl cT hr (Nat.le_refl _) (by rfl) (pa_cons (pv 0) (pa_cons (pv 1) (pa_cons (pv 2) (pa_cons (pe_op op_sub (pv 3) pe_int) pa_nil)))))) pa_nil)))))))), ?_⟩
  rw [show L2.start ["tape", "symbols", "variables", "depth", "choice", "symbol", "k"] [.ref t, .ref sy, .ref va, .int ((d : Int) + 1)] = [some (.ref t), some (.ref sy), some (.ref va), some (.int ((d : Int) + 1)), none, none, none] from rfl]
  have nS := S.ne T
  have nV := Va.ne T
  obtain ⟨rs, eS, lS, _⟩ := id S.is
  obtain ⟨ws, eV, aV⟩ := id Va.is
  walk_at "rd"
  rw [List.length_map, lS, aV.len]
  refine ⟨t, sc, ns, _, rfl, T, by omega, by omega, fun H1 n k1 T1 n0 n1 => ?_⟩
  have S1 := S.tape T k1 nS
  have V1 := Va.tape T k1 nV
  have eS1 := kept_at k1 nS eS
  have eV1 := kept_at k1 nV eV
  have aV1 : Ats H1 ws vars := aV.keep (T.keepT k1)
  walk_at "rd"
  rw [aV.len]
  refine ite_dc (fun c => ?_) (fun c => ?_)
  · walk_at "rd"
    have hn : n.toNat < vars.length := by omega
    obtain ⟨v, ev, av⟩ := aV1.get' (List.getElem?_eq_getElem hn)
    refine d_ixLc eV1 (atI_of n0 ev) ?_
    exact q H1 v _ k1 T1 av (.var (List.getElem_mem hn))
  · walk_at "rd"
    obtain ⟨xs, r, z, ar, e2, lx, ex, er, nz, a0, a3, ezs⟩ := S1.get (k := n - vars.length) (by omega) (by omega)
    rw [aV.len]
    have memz : (z, ar) ∈ zs := List.mem_of_getElem? ezs
    refine d_ixLc e2 ex ?_
    walk_at "rd"
    refine ite_dc (fun c2 => ?_) (fun c2 => ?_)
    · walk_at "rd"
      refine ⟨smallN (show 1 ≤ 1000000 by decide), fun p hp => ?_⟩
      have kp : Kp [t] H1 (upd H1 p (.tup [.str z])) := Kp.new hp
      have d0 : d = 0 := by omega
      subst d0
      exact q _ _ (.app z []) (k1.trans kp) (T1.nil (Kp.new hp)) (.of upd_same .nil) (.leaf memz)
    · walk_at "rd"
      obtain ⟨e, rfl⟩ : ∃ e, d = e + 1 := ⟨d - 1, by omega⟩
      have hsp2 := hsp e dm
      refine ⟨smallN (show 1 ≤ 1000000 by decide), fun p hp => ?_⟩
      have kp : Kp [t] H1 (upd H1 p (.tup [.str z])) := Kp.new hp
      have T2 := T1.nil (Kp.new (o := .tup [.str z]) hp)
      have S2 := S1.tape T1 kp nS
      have V2 := V1.tape T1 kp nV
      have er2 := kept_at kp (fun z => T1.not_tup _ (z ▸ er)) er
      have nP : p ≠ t := fun z => T1.t_some hp z.symm
      walk_at "rd"
      refine ⟨by omega, by omega, fun D hD => ?_⟩
      have eP : (upd H1 p (.tup [.str z])) p = some (.tup [.str z]) := upd_same
      generalize (upd H1 p (.tup [.str z])) = B at kp T2 S2 V2 er2 hD eP ⊢
      have nD1 : D ≠ t := fun z => T2.t_some hD z.symm
      have nD2 : D ≠ sc := fun z => T2.s_some hD z.symm
      have nD3 : D ≠ sy := fun z => by obtain ⟨_, q1, _⟩ := S2.is; exact ne_of_none q1 hD z.symm
      have nD4 : D ≠ va := fun z => by obtain ⟨_, q1, _⟩ := V2.is; exact ne_of_none q1 hD z.symm
      have nD5 : D ≠ p := fun z => ne_of_none eP hD z.symm
      have i1 : ∀ {a : Addr}, D ≠ a → a ∉ [D] := fun h z => by rcases List.mem_cons.mp z with z | z; exact h z.symm; cases z
      refine lb_range (fun i H2 => ∃ vs ts, H2 D = some (.lst vs) ∧ Ats H2 vs ts ∧ ts.length = i ∧ (∀ u ∈ ts, Gen zs vars e u) ∧ Kp [D, t] B H2 ∧ TapeAt H2 t sc ns ∧ SymsAt H2 sy zs ∧ VarsAt H2 va vars ∧ H2 p = some (.tup [.str z]))
        ⟨[], [], upd_same, .nil, rfl, (fun u hu => by cases hu), Kp.new hD, T2.nil (Kp.new hD), S2.keep (l := []) (Kp.new hD) (by simp) (by simp), V2.keep (l := []) (Kp.new hD) (by simp) (by simp), by rw [upd_ne (Ne.symm nD5)]; exact eP⟩ (fun i H2 hi h2 => ?_) (fun H2 h2 => ?_)
      · obtain ⟨vs, ts, eD, aD, lD, gD, kD, T3, S3, V3, eP3⟩ := h2
        walk_at "rd"
        refine ⟨rfl, ?_⟩
        walk_at "rd"
        refine hsp2 _ _ _ _ ⟨t, sc, sy, va, ns, zs, vars, by rw [show (((e + 1 : Nat) : Int) + 1 - 1) = (e : Int) + 1 by omega], T3, S3, z1, z2, V3, v2, fun H4 v tm k4 T4 a4 g4 => ?_⟩
        have eD4 := kept_at k4 nD1 eD
        have ND : ∀ xs, H4 D ≠ some (.tup xs) := fun xs q1 => by rw [eD4] at q1; cases q1
        have kd : Kp [D] H4 (upd H4 D (.lst (vs ++ [v]))) := Kp.put (by simp)
        have dl : ∀ a ∈ [D], ∀ xs, H4 a ≠ some (.tup xs) := fun a ha xs => by rcases List.mem_cons.mp ha with z | z; (rw [z]; exact ND xs); cases z
        refine ⟨vs, eD4, smallL (by rw [aD.len, lD]; omega), vs ++ [v], ts ++ [tm], upd_same, ?_, by rw [List.length_append, lD]; rfl, fun u hu => ?_, ?_, ?_, ?_, ?_, ?_⟩
        · exact (((aD.keep (T3.keepT k4)).append (.one a4))).keep (kd.keepT dl)
        · rcases List.mem_append.mp hu with hu | hu
          · exact gD u hu
          · rcases List.mem_cons.mp hu with rfl | hu
            · exact g4
            · cases hu
        · exact (kD.trans (k4.mono fun b hb => List.mem_cons_of_mem _ hb)).trans (Kp.put (by simp))
        · exact T4.keep kd (i1 nD1) (i1 nD2)
        · exact (S3.tape T3 k4 nS).keep kd (i1 nD3) dl
        · exact (V3.tape T3 k4 nV).keep kd (i1 nD4) dl
        · rw [upd_ne (Ne.symm nD5)]
          exact kept_at k4 nP eP3
      · obtain ⟨vs, ts, eD, aD, lD, gD, kD, T3, S3, V3, eP3⟩ := h2
        walk_at "rd"
        intro l hl
        have k5 : Kp [D, t] H2 (upd H2 l (.tup vs)) := Kp.new hl
        have nl : p ≠ l := ne_of_none eP3 hl
        have T5 := T3.nil (Kp.new (o := .tup vs) hl)
        have kf : Kp [t] B (upd H2 l (.tup vs)) := (kD.trans k5).less hD
        have eP5 : (upd H2 l (.tup vs)) p = some (.tup [.str z]) := by rw [upd_ne nl]; exact eP3
        have a5 : Ats (upd H2 l (.tup vs)) vs ts := aD.keep ((Kp.new (l := []) hl).keepT (by simp))
        refine d_catT eP5 upd_same (by simp) (by rw [aD.len, lD]; show 1 + ar.toNat ≤ 1000000; omega) (fun hv => ?_) (fun hv r2 hr2 => ?_)
        · subst hv
          have ht : ts = [] := by have := aD.len; simpa using this.symm
          subst ht
          refine q _ _ (.app z []) ((k1.trans kp).trans kf) T5 (.of eP5 .nil) (.app (n := ar) memz (by rw [lD]) (fun u hu => by cases hu))
        · refine q _ _ (.app z ts) (((k1.trans kp).trans kf).trans (Kp.new hr2)) (T5.nil (Kp.new hr2)) (.of (vs := vs) upd_same (a5.keep ((Kp.new (l := []) hr2).keepT (by simp)))) (.app (n := ar) memz (by rw [lD]) gD)
theorem ok_term {P : Program} {w : World} {K : PySem.W.Frag} {mg : Str → Option Value} {base : Heap} {k : Nat} (D : Df K mg "_law_term" s_term ["tape", "symbols", "variables", "depth"])
    (cD : Cl P w K mg base k "_law_draw" ["tape", "many"] spDraw) (ml : mg "len" = none) (mr : mg "range" = none) (mt : mg "tuple" = none) : ∀ m : Nat, Cl P w K mg base (k + 1 + m) "_law_term" ["tape", "symbols", "variables", "depth"] (spTermLe m)
  | 0 => ok_term1 (sp := spNone) D cD (D.none (N := []) fun _ _ _ _ h => h) (fun e h => absurd h (by omega)) ml mr mt
  | m + 1 => ok_term1 (k := k + 1 + m) D (cD.mono (by omega)) (ok_term D cD ml mr mt m) (fun e h vs H Q E q => ⟨e, by omega, q⟩) ml mr mt

abbrev s_repl : Stmt := top 31
theorem sc_repl : FnScope ["term", "table", "part"] ["term", "table"] (defScope s_repl) := ⟨rfl, rfl, rfl, by decide +kernel, rfl, by decide +kernel, by decide +kernel⟩
theorem ok_repl1 {P : Program} {w : World} {K : PySem.W.Frag} {mg : Str → Option Value} {base : Heap} {k d : Nat} {sp : Sp} (D : Df K mg "_law_replaced" s_repl ["term", "table"]) (cC : Cl P w K mg base k "_law_replaced" ["term", "table"] sp)
    (hsp : ∀ vs H Q E, spRepl d vs H Q E → sp vs H Q E) (mi : mg "int" = none) (ms : mg "isinstance" = none) (mt : mg "tuple" = none) : Cl P w K mg base (k + 1) "_law_replaced" ["term", "table"] (spRepl (d + 1)) := by
  refine D.ok sc_repl (fun vs H Q E h => ?_) (fun f cdv A outer s H vs Q E hr h => ?_)
  · obtain ⟨v, l, tm, kvs, θ, rfl, _⟩ := h
    rfl
  obtain ⟨v, l, tm, kvs, θ, rfl, a, hd, hz, el, tb, q⟩ := h
  refine ⟨_, pss_cons (ps_if (pt_val (pe_callB call_isi (by rfl) ms b_isinstance (pa_cons (pv 0) (pa_cons (pe_bltn (v := .ty "int") (by rfl) mi b_int rfl) pa_nil))))
      (pss_cons (ps_if (pt_cmp (pc_din hr.u1 (pv 0) (pv 1)) (by rfl)) (pss_one (ps_ret (pe_dget hr.u1 (pv 1) (pv 0) (fun _ _ => rfl)))) pss_nil) (pss_one (ps_ret (pv 0)))) pss_nil)
    (pss_one (ps_ret (pe_op op_catT (pe_tup (pa_cons (pe_ix ix_tup (pv 0) pe_int (fun _ _ => rfl)) pa_nil))
      (pe_callTy c_tup (by rfl) mt b_tuple (pa_cons (pe_lc (own := [("part", 2)]) (g := gName 2) (by rfl) sc_repl.nd (pi_tup (pe_slice sl_tup (pv 0) (po_some pe_int) po_none))
        (blkOk_by (own := [("part", 2)]) (N := ["term", "table", "part"]) (sc := defScope s_repl) (by decide +kernel)) (fun _ _ _ _ _ => pg_name (i := 2) sc_repl.nd rfl (Or.inl rfl)) (fun _ _ _ _ _ => pts_nil)
        (fun _ _ _ _ _ => pe_cl cC hr (Nat.le_refl _) (by rfl) (pa_cons (pv 2) (pa_cons (pv 1) pa_nil)))) pa_nil))))), ?_⟩
  rw [show L2.start ["term", "table", "part"] [v, .ref l] = [some v, some (.ref l), none] from rfl]
  rcases a.int with ⟨i, rfl, rfl⟩ | ⟨b, n, vs, ts, rfl, rfl, ea, ats⟩
  · walk_at "rd"
    refine iteT ?_
    walk_at "rd"
    refine d_din ?_
    walk_at "rd"
    have g : DGet H l (V.int i) (valV kvs (.inl i)) := DGet.k (k := .inl i) el
    rw [Tm.sub_var] at q
    rcases tb i with ⟨h1, h2⟩ | ⟨u, t, h1, h2, h3⟩
    · rw [h1] at g
      rw [h2] at q
      refine ⟨l, none, rfl, g, ?_⟩
      refine ⟨false, rfl, iteF ?_⟩
      walk_at "rd"
      exact q H _ (Kp.refl _ _) (.var i)
    · rw [h1] at g
      rw [h2] at q
      refine ⟨l, some u, rfl, g, ?_⟩
      refine ⟨true, rfl, iteT ?_⟩
      walk_at "rd"
      refine d_dget ?_
      walk_at "rd"
      refine ⟨l, u, rfl, g, q H _ (Kp.refl _ _) h3⟩
  · walk_at "rd"
    refine iteF ?_
    walk_at "rd"
    refine d_ixT0 ea ?_
    walk_at "rd"
    refine ⟨smallN (show 1 ≤ 1000000 by decide), fun p hp => ?_⟩
    have k1 : Kp [] H (upd H p (.tup [.str n])) := Kp.new hp
    have ep : (upd H p (.tup [.str n])) p = some (.tup [.str n]) := upd_same
    have ea1 := k1 _ _ (by simp) ea
    have at1 := k1.ats (by simp) ats
    have el1 := k1 _ _ (by simp) el
    have tb1 := tb.keep (k1.keepT (by simp))
    generalize (upd H p (.tup [.str n])) = H1 at k1 ep ea1 at1 el1 tb1 ⊢
    walk_at "rd"
    refine d_slT1 ea1 (fun r hr2 => ?_)
    have k2 : Kp [] H1 (upd H1 r (.tup vs)) := Kp.new hr2
    have er : (upd H1 r (.tup vs)) r = some (.tup vs) := upd_same
    have ep2 := k2 _ _ (by simp) ep
    have at2 := k2.ats (by simp) at1
    have el2 := k2 _ _ (by simp) el1
    have tb2 := tb1.keep (k2.keepT (by simp))
    generalize (upd H1 r (.tup vs)) = H2 at k2 er ep2 at2 el2 tb2 ⊢
    rw [Tm.depth_app] at hd
    rw [Tm.size_app] at hz
    have ll := at2.len
    have ls := Tm.length_le_sizes ts
    refine ⟨r, rfl, ⟨vs, sqT er⟩, fun D hD => ?_⟩
    refine lb_tms (fun t => t.sub θ) (show 2 < 3 by decide) hD er (by omega) at2 (fun v t H3 Q3 mt av kD hq => ?_) (fun H3 ws kD eD aD => ?_)
    · show tCall sp [] E0 _ [some (.ref b), some (.ref l), some v] H3 Q3
      walk_at "rd"
      have := Tm.size_mem mt
      have := Tm.depth_mem mt
      exact hsp _ _ _ _ ⟨v, l, t, kvs, θ, rfl, av, by omega, by omega, kD.one (ne_of_none el2 hD) el2, tb2.keep (kD.keepT (no_tup0 hD)), hq⟩
    · have nD := ne_of_none ep2 hD
      have ep3 := kD.one nD ep2
      walk_at "rd"
      intro l2 hl2
      have k4 : Kp [] H3 (upd H3 l2 (.tup ws)) := Kp.new hl2
      have kk : Kp [] H (upd H3 l2 (.tup ws)) := ((k1.trans k2).trans (kD.less hD)).trans k4
      have lw := aD.len
      rw [List.length_map] at lw
      rw [Tm.sub_app, Tm.subs_map] at q
      refine d_catT (k4 _ _ (by simp) ep3) upd_same (by simp) (by show 1 + ws.length ≤ 1000000; omega) (fun hv => ?_) (fun hv r2 hr2 => ?_)
      · subst hv
        refine q _ _ kk (.of (k4 _ _ (by simp) ep3) (k4.ats (by simp) aD))
      · have k5 : Kp [] (upd H3 l2 (.tup ws)) (upd (upd H3 l2 (.tup ws)) r2 (.tup ([.str n] ++ ws))) := Kp.new hr2
        exact q _ _ (kk.trans k5) (.of (vs := ws) upd_same ((k4.ats (by simp) aD).keep (k5.keepT (by simp))))
theorem ok_repl {P : Program} {w : World} {K : PySem.W.Frag} {mg : Str → Option Value} {base : Heap} (D : Df K mg "_law_replaced" s_repl ["term", "table"]) (mi : mg "int" = none) (ms : mg "isinstance" = none) (mt : mg "tuple" = none) : ∀ d : Nat, Cl P w K mg base (d + 1) "_law_replaced" ["term", "table"] (spRepl (d + 1))
  | 0 => ok_repl1 (sp := spRepl 0) D (D.none (N := []) fun vs H Q E ⟨_, _, tm, _, _, _, _, h, _⟩ => absurd tm.depth_pos (by omega)) (fun _ _ _ _ h => h) mi ms mt
  | d + 1 => ok_repl1 (k := d + 1) D (ok_repl D mi ms mt d) (fun _ _ _ _ h => h) mi ms mt

abbrev s_collect : Stmt := top 32
theorem sc_collect : FnScope ["term", "found", "part"] ["term", "found"] (defScope s_collect) := ⟨rfl, rfl, rfl, by decide +kernel, rfl, by decide +kernel, by decide +kernel⟩
theorem ok_collect1 {P : Program} {w : World} {K : PySem.W.Frag} {mg : Str → Option Value} {base : Heap} {k d : Nat} {sp : Sp} (D : Df K mg "_law_collect" s_collect ["term", "found"]) (cC : Cl P w K mg base k "_law_collect" ["term", "found"] sp)
    (hsp : ∀ vs H Q E, spCollect d vs H Q E → sp vs H Q E) (mi : mg "int" = none) (ms : mg "isinstance" = none) : Cl P w K mg base (k + 1) "_law_collect" ["term", "found"] (spCollect (d + 1)) := by
  refine D.ok sc_collect (fun vs H Q E h => ?_) (fun f cdv A outer s H vs Q E hr h => ?_)
  · obtain ⟨v, l, tm, is, rfl, _⟩ := h
    rfl
  obtain ⟨v, l, tm, is, rfl, a, hd, el, hz, q⟩ := h
  refine ⟨_, pss_one (ps_if (pt_val (pe_callB call_isi (by rfl) ms b_isinstance (pa_cons (pv 0) (pa_cons (pe_bltn (v := .ty "int") (by rfl) mi b_int rfl) pa_nil))))
    (pss_one (ps_if (pt_cmpR (op_notInD hr.u65) (pv 0) (pv 1) (by rfl)) (pss_one (ps_expr (pe_bm PySem.F.plainAttrs_list PySem.F.slot_list_append PySem.F.type_list_append mt_append (pv 1) (pa_cons (pv 0) pa_nil)))) pss_nil))
    (pss_one (ps_for PassesOwn.never rfl (pi_tup (pe_slice sl_tup (pv 0) (po_some pe_int) po_none)) (pg_name (i := 2) sc_collect.nd rfl (.inl rfl))
      (pss_one (ps_expr (pe_cl cC hr (Nat.le_refl _) (by rfl) (pa_cons (pv 2) (pa_cons (pv 1) pa_nil)))))))), ?_⟩
  rw [show L2.start ["term", "found", "part"] [v, .ref l] = [some v, some (.ref l), none] from rfl]
  rcases a.int with ⟨i, rfl, rfl⟩ | ⟨b, n, vs, ts, rfl, rfl, ea, ats⟩
  · walk_at "rd"
    refine iteT ?_
    walk_at "rd"
    refine d_notInI el ?_
    rw [Tm.size_var] at hz
    walk_at "rd"
    refine ite_ndc (fun c => ?_) (fun c => ?_)
    · walk_at "rd"
      refine d_app el (by rw [List.length_map]; omega) ?_
      refine q _ (Kp.put (by simp)) ?_
      rw [upd_same, Tm.ints_var, adds_cons, adds_nil, addN_not c, List.map_append]
      rfl
    · walk_at "rd"
      refine q H (Kp.refl _ _) ?_
      rw [el, Tm.ints_var, adds_cons, adds_nil, addN_in c]
  · walk_at "rd"
    refine iteF ?_
    walk_at "rd"
    refine d_slT1 ea (fun r hr2 => ?_)
    have nl : l ≠ r := ne_of_none el hr2
    have k1 : Kp [] H (upd H r (.tup vs)) := Kp.new hr2
    have er : (upd H r (.tup vs)) r = some (.tup vs) := upd_same
    have el1 := k1 _ _ (by simp) el
    have at1 := k1.ats (by simp) ats
    generalize (upd H r (.tup vs)) = H1 at k1 er el1 at1 ⊢
    rw [Tm.depth_app] at hd
    rw [Tm.size_app] at hz
    refine ⟨_, rfl, ⟨vs, sqT er⟩, ?_⟩
    refine fr_tup (xs := vs) (fun i σ H2 => ∃ x is2 H3, σ = [some (.ref b), some (.ref l), x] ∧ Kp [l] H1 H2 ∧ H2 l = some (.lst (is2.map V.int)) ∧ is2 = adds is (Tm.intss (ts.take i)) ∧ H3 = H2)
      ⟨none, is, H1, rfl, Kp.refl _ _, el1, by rw [List.take_zero, Tm.intss_nil]; rfl, rfl⟩ (fun i σ H2 hi h2 => ?_) (fun i x σ H2 hx h2 => ?_) (fun σ H2 h2 => ?_)
    · obtain ⟨_, _, _, _, k2, _⟩ := h2
      exact sqT (k2.one (Ne.symm nl) er)
    · obtain ⟨x0, is2, _, rfl, k2, e2, rfl, _⟩ := h2
      walk_at "rd"
      obtain ⟨t, et, atm⟩ := at1.get hx
      have mt := List.mem_of_getElem? et
      have s1 := Tm.size_mem mt
      have d1 := Tm.depth_mem mt
      have at2 := atm.keep (k2.keepT (no_tup1 el1))
      have ll := len_adds (Tm.intss (ts.take i)) is
      have l3 := Tm.len_intss (ts.take i)
      have l4 : Tm.sizes (ts.take i) + t.size ≤ Tm.sizes ts := by
        have e1 : Tm.sizes (ts.take (i + 1)) ≤ Tm.sizes ts := by
          conv => rhs; rw [← List.take_append_drop (i + 1) ts, Tm.sizes_append]
          omega
        rw [List.take_add_one, et, Tm.sizes_append] at e1
        have e3 : Tm.sizes (some t).toList = t.size := by show Tm.sizes [t] = _; rw [Tm.sizes_cons, Tm.sizes_nil]; omega
        omega
      refine hsp _ _ _ _ ⟨x, l, t, adds is (Tm.intss (ts.take i)), rfl, at2, by omega, e2, by omega, fun H4 k4 e4 => ?_⟩
      refine ⟨_, _, H4, rfl, k2.trans k4, e4, ?_, rfl⟩
      rw [← adds_append, List.take_add_one, et, Tm.intss_append]
      show adds is (Tm.intss (ts.take i) ++ t.ints) = adds is (Tm.intss (ts.take i) ++ Tm.intss [t])
      rw [Tm.intss_cons, Tm.intss_nil, List.append_nil]
    · obtain ⟨x0, is2, _, rfl, k2, e2, rfl, _⟩ := h2
      rw [List.take_of_length_le (by rw [← at1.len]; exact Nat.le_refl _)] at e2
      walk_at "rd"
      refine q H2 ((k1.mono (by simp)).trans k2) ?_
      rw [e2, Tm.ints_app]
theorem ok_collect {P : Program} {w : World} {K : PySem.W.Frag} {mg : Str → Option Value} {base : Heap} (D : Df K mg "_law_collect" s_collect ["term", "found"]) (mi : mg "int" = none) (ms : mg "isinstance" = none) : ∀ d : Nat, Cl P w K mg base (d + 1) "_law_collect" ["term", "found"] (spCollect (d + 1))
  | 0 => ok_collect1 (sp := spCollect 0) D (D.none (N := []) fun vs H Q E ⟨_, _, tm, _, _, _, h, _⟩ => absurd tm.depth_pos (by omega)) (fun _ _ _ _ h => h) mi ms
  | d + 1 => ok_collect1 (k := d + 1) D (ok_collect D mi ms d) (fun _ _ _ _ h => h) mi ms

abbrev s_lvars : Stmt := top 33
theorem sc_lvars : FnScope ["terms", "found", "term"] ["terms"] (defScope s_lvars) := ⟨rfl, rfl, rfl, by decide +kernel, rfl, by decide +kernel, by decide +kernel⟩
theorem ok_lvars {P : Program} {w : World} {K : PySem.W.Frag} {mg : Str → Option Value} {base : Heap} {k d : Nat} (D : Df K mg "_law_variables" s_lvars ["terms"]) (cC : Cl P w K mg base k "_law_collect" ["term", "found"] (spCollect d)) : Cl P w K mg base (k + 1) "_law_variables" ["terms"] (spLVars d) := by
  refine D.ok sc_lvars (fun vs H Q E h => ?_) (fun f cdv A outer s H vs Q E hr h => ?_)
  · obtain ⟨a, xs, ts, rfl, _⟩ := h
    rfl
  obtain ⟨a, xs, ts, rfl, ea, ats, hd, hz, q⟩ := h
  refine ⟨_, pss_cons (ps_set (i := 1) sc_lvars.nd rfl (.inl rfl) (pe_lst pa_nil))
    (pss_cons (ps_for PassesOwn.never rfl (pi_list (pv 0)) (pg_name (i := 2) sc_lvars.nd rfl (.inl rfl)) (pss_one (ps_expr (pe_cl cC hr (Nat.le_refl _) (by rfl) (pa_cons (pv 2) (pa_cons (pv 1) pa_nil))))))
    (pss_one (ps_ret (pv 1)))), ?_⟩
  rw [show L2.start ["terms", "found", "term"] [.ref a] = [some (.ref a), none, none] from rfl]
  walk_at "rd"
  refine ⟨Nat.zero_le _, fun l hl => ?_⟩
  walk_at "rd"
  have na : a ≠ l := ne_of_none ea hl
  have k1 : Kp [] H (upd H l (.lst [])) := Kp.new hl
  have el : (upd H l (.lst [])) l = some (.lst []) := upd_same
  have ea1 := k1 _ _ (by simp) ea
  have at1 := k1.ats (by simp) ats
  generalize (upd H l (.lst [])) = H1 at k1 el ea1 at1 ⊢
  refine ⟨⟨xs, sqL ea1⟩, ?_⟩
  refine fr_list (xs := xs) (fun i σ H2 => ∃ x is2 H3, σ = [some (.ref a), some (.ref l), x] ∧ Kp [l] H1 H2 ∧ H2 l = some (.lst (is2.map V.int)) ∧ is2 = adds [] (Tm.intss (ts.take i)) ∧ H3 = H2)
    ⟨none, [], H1, rfl, Kp.refl _ _, el, by rw [List.take_zero, Tm.intss_nil]; rfl, rfl⟩ (fun i σ H2 hi h2 => ?_) (fun i x σ H2 hx h2 => ?_) (fun σ H2 h2 => ?_)
  · obtain ⟨_, _, _, _, k2, _⟩ := h2
    exact sqL (k2.one na ea1)
  · obtain ⟨x0, is2, _, rfl, k2, e2, rfl, _⟩ := h2
    walk_at "rd"
    obtain ⟨t, et, atm⟩ := at1.get hx
    have mt := List.mem_of_getElem? et
    have at2 := atm.keep (k2.keepT (no_tup1 el))
    have ll := len_adds (Tm.intss (ts.take i)) []
    have l3 := Tm.len_intss (ts.take i)
    have l4 := sizes_take et
    have l5 : ([] : List Int).length = 0 := rfl
    refine ⟨x, l, t, _, rfl, at2, hd t mt, e2, by omega, fun H4 k4 e4 => ?_⟩
    refine ⟨_, _, H4, rfl, k2.trans k4, e4, ?_, rfl⟩
    rw [← adds_append, intss_take et]
  · obtain ⟨x0, is2, _, rfl, k2, e2, rfl, _⟩ := h2
    rw [at1.take_all] at e2
    walk_at "rd"
    exact q H2 l (((k1.mono (by simp)).trans k2).less hl) hl e2

abbrev s_lnumbered : Stmt := top 34
abbrev nLNum : List Str := ["terms", "found", "table", "k", "term"]
theorem sc_lnumbered : FnScope nLNum ["terms"] (defScope s_lnumbered) := ⟨rfl, rfl, rfl, by decide +kernel, rfl, by decide +kernel, by decide +kernel⟩
theorem ok_lnumbered {P : Program} {w : World} {K : PySem.W.Frag} {mg : Str → Option Value} {base : Heap} {k d : Nat} (D : Df K mg "_law_numbered" s_lnumbered ["terms"])
    (cV : Cl P w K mg base k "_law_variables" ["terms"] (spLVars d)) (cR : Cl P w K mg base k "_law_replaced" ["term", "table"] (spRepl d)) (mr : mg "range" = none) (ml : mg "len" = none) : Cl P w K mg base (k + 1) "_law_numbered" ["terms"] (spLNumbered d) := by
  refine D.ok sc_lnumbered (fun vs H Q E h => ?_) (fun f cdv A outer s H vs Q E hr h => ?_)
  · obtain ⟨a, xs, ts, rfl, _⟩ := h
    rfl
  obtain ⟨a, xs, ts, rfl, ea, ats, hd, hz, q⟩ := h
  refine' ⟨_, pss_cons ?a1 (pss_cons ?a2 (pss_cons ?a3 (pss_one ?a4))), ?rst⟩
  case a1 => exact ps_set (i := 1) sc_lnumbered.nd rfl (.inl rfl) (pe_cl cV hr (Nat.le_refl _) (by rfl) (pa_cons (pv 0) pa_nil))
  case a2 => exact ps_set (i := 2) sc_lnumbered.nd rfl (.inr rfl) pe_dnewK
  case a3 =>
    refine' ps_for PassesOwn.never rfl ?b1 ?b3 (pss_one ?b2)
    case b1 => exact pi_range1 (by rfl) mr (pa_cons (pe_callB c_len (by rfl) ml b_len (pa_cons (pv 1) pa_nil)) pa_nil)
    case b3 => exact pg_name (i := 3) sc_lnumbered.nd rfl (.inl rfl)
    case b2 => exact ps_dput hr.u1 (pv 2) (pe_ix ix_list (pv 1) (pv 3) (fun _ _ => rfl)) (pv 3) (by rfl)
  case a4 => exact ps_ret (pe_lc (own := [("term", 4)]) (g := gName 4) (by rfl) sc_lnumbered.nd (pi_list (pv 0))
        (blkOk_by (own := [("term", 4)]) (N := nLNum) (sc := defScope s_lnumbered) (by decide +kernel)) (fun _ _ _ _ _ => pg_name (i := 4) sc_lnumbered.nd rfl (Or.inl rfl)) (fun _ _ _ _ _ => pts_nil)
        (fun _ _ _ _ _ => pe_cl cR hr (Nat.le_refl _) (by rfl) (pa_cons (pv 4) (pa_cons (pv 2) pa_nil))))
  case rst =>
  rw [show L2.start nLNum [.ref a] = [some (.ref a), none, none, none, none] from rfl]
  walk_at "rd"
  refine ⟨a, xs, ts, rfl, ea, ats, hd, hz, fun H1 vp k1 hvp evp => ?_⟩
  have ea1 := k1 _ _ (by simp) ea
  have at1 := k1.ats (by simp) ats
  walk_at "rd"
  refine d_dnew (fun l hl => ?_)
  have lV := len_vrs ts
  have nv : vp ≠ l := ne_of_none evp hl
  have na : a ≠ l := ne_of_none ea1 hl
  have k2 : Kp [] H1 (upd H1 l (.dK [])) := Kp.new hl
  have el : (upd H1 l (.dK [])) l = some (.dK []) := upd_same
  have ea2 := k2 _ _ (by simp) ea1
  have at2 := k2.ats (by simp) at1
  have evp2 : (upd H1 l (.dK [])) vp = some (.lst ((vrs ts).map V.int)) := k2 _ _ (by simp) evp
  generalize (upd H1 l (.dK [])) = H2 at k2 el ea2 at2 evp2 ⊢
  walk_at "rd"
  rw [List.length_map]
  refine ⟨by omega, by omega, ?_⟩
  rw [Int.toNat_natCast]
  refine fr_range (fun i σ H' => ∃ x3 kvs u, σ = [some (.ref a), some (.ref vp), some (.ref l), x3, none] ∧ u = 0 ∧ H' l = some (.dK kvs) ∧ kvs.length ≤ i ∧ TblAt H' kvs (renT (fun k => (k : Int)) ((vrs ts).take i)) ∧ Kp [l] H2 H')
    ⟨none, [], 0, rfl, rfl, el, Nat.zero_le _, by rw [List.take_zero, renT_nil]; exact .nil, Kp.refl _ _⟩ (fun i σ H' hi h' => ?_) (fun σ H' h' => ?_)
  · obtain ⟨x3, kvs, _, rfl, _, e, lk, tb, k3⟩ := h'
    obtain ⟨v, ev⟩ : ∃ v, (vrs ts)[i]? = some v := ⟨_, List.getElem?_eq_getElem hi⟩
    have evp3 := k3.one nv evp2
    walk_at "rd"
    refine d_dput ?_
    walk_at "rd"
    refine d_ixLc (v := .int v) evp3 ?_ ?_
    · refine atI_of (by omega) ?_
      rw [List.getElem?_map, show (0 + (i : Int)).toNat = i by omega, ev]
      rfl
    walk_at "rd"
    refine ⟨l, _, rfl, DPut.k (k := .inl v) e (smallL (by omega)), ?_⟩
    walk_at "rd"
    have nd : ((vrs ts).take i ++ [v]).Nodup := by
      rw [← take_succ_of ev]
      exact (vrs_nodup ts).sublist (List.take_sublist _ _)
    have ni : v ∉ (vrs ts).take i := fun z => (List.nodup_append.mp nd).2.2 v z v (by simp) rfl
    refine ⟨_, _, 0, rfl, rfl, upd_same, ?_, ?_, k3.trans (Kp.put (by simp))⟩
    · have := length_putK kvs (.inl v) (V.int (0 + (i : Int))); omega
    · rw [take_succ_of ev, renT_snoc ni, List.length_take, Nat.min_eq_left (by omega), Int.zero_add]
      exact (tb.keep ((Kp.put (l := [l]) (by simp)).keepT (no_tupD e))).put (.var i)
  · obtain ⟨x3, kvs, _, rfl, _, e, lk, tb, k3⟩ := h'
    rw [List.take_length] at tb
    have hlH : H l = none := fresh0 k1 hl
    have ea3 := k3.one na ea2
    have at3 := at2.keep (k3.keepT (no_tupD el))
    walk_at "rd"
    refine ⟨⟨xs, sqL ea3⟩, fun D hD => ?_⟩
    have lx := ats.len
    have ls := Tm.length_le_sizes ts
    have kH : Kp [] H H' := (((k1.trans k2).mono (by simp)).trans k3).less hlH
    refine lb_tmsL (fun t => t.sub (renT (fun k => (k : Int)) (vrs ts))) (show 4 < 5 by decide) hD ea3 (by omega) at3 (fun v t H4 Q4 mt av kD hq => ?_) (fun H4 ys kD eD aD => ?_)
    · show tCall (spRepl d) [] E0 _ [some (.ref a), some (.ref vp), some (.ref l), x3, some v] H4 Q4
      walk_at "rd"
      have := Tm.size_mem mt
      exact ⟨v, l, t, kvs, _, rfl, av, hd t mt, by omega, kD.one (ne_of_none e hD) e, tb.keep (kD.keepT (no_tup0 hD)), hq⟩
    · have hDH := fresh0 kH hD
      exact q H4 D ys (((kH.mono (by simp)).trans kD).less hDH) hDH eD aD

abbrev s_alike : Stmt := top 35
theorem sc_alike : FnScope ["told", "due"] ["told", "due"] (defScope s_alike) := ⟨rfl, rfl, rfl, by decide +kernel, rfl, by decide +kernel, by decide +kernel⟩
theorem ok_alike {P : Program} {w : World} {K : PySem.W.Frag} {mg : Str → Option Value} {base : Heap} {k : Nat} (D : Df K mg "_law_alike" s_alike ["told", "due"])
    (mi : mg "int" = none) (mt : mg "tuple" = none) (ms : mg "isinstance" = none) (mp : mg "repr" = none) : Cl P w K mg base (k + 1) "_law_alike" ["told", "due"] (spAlikeD K) := by
  refine D.ok sc_alike (fun vs H Q E h => ?_) (fun f cdv A outer s H vs Q E hr h => ?_)
  · obtain ⟨x, y, d, rfl, _⟩ := h
    rfl
  obtain ⟨x, y, d, rfl, h1, h2, g, hx, q⟩ := h
  refine ⟨_, pss_cons (ps_if (PW.pt (pw_and (pt_val (pe_callB call_isi (by rfl) ms b_isinstance (pa_cons (pv 1) (pa_cons (pe_bltn (v := .ty "tuple") (by rfl) mt b_tuple rfl) pa_nil))))
        (pw_and1 (pt_not (pt_val (pe_callB call_isi (by rfl) ms b_isinstance (pa_cons (pv 0) (pa_cons (pe_bltn (v := .ty "tuple") (by rfl) mt b_tuple rfl) pa_nil)))))))) (pss_one (ps_ret pe_bl)) pss_nil)
    (pss_cons (ps_if (PW.pt (pw_and (pt_val (pe_callB call_isi (by rfl) ms b_isinstance (pa_cons (pv 1) (pa_cons (pe_bltn (v := .ty "int") (by rfl) mi b_int rfl) pa_nil))))
        (pw_and1 (pt_not (pt_val (pe_callB call_isi (by rfl) ms b_isinstance (pa_cons (pv 0) (pa_cons (pe_bltn (v := .ty "int") (by rfl) mi b_int rfl) pa_nil)))))))) (pss_one (ps_ret pe_bl)) pss_nil)
    (pss_one (ps_ret (pe_and (pe_cmpR (op_eqD hr.u64) (pv 0) (pv 1) (nomark _)) (pe_one (pe_cmpR op_eq (pe_callB (c_reprD hr.g hr.u100) (by rfl) mp b_repr (pa_cons (pv 0) pa_nil)) (pe_callB (c_reprD hr.g hr.u100) (by rfl) mp b_repr (pa_cons (pv 1) pa_nil)) (nomark _))))))), ?_⟩
  have ev : PyData.eqv d d = true := PySem.SeqAt.eqv_refl d g.can
  rcases hx with ⟨i, rfl, rfl⟩ | ⟨⟨a, xs, rfl, e1⟩, ⟨b, ys, rfl, e2⟩⟩
  · rw [show L2.start ["told", "due"] [.int i, .int i] = [some (.int i), some (.int i)] from rfl]
    walk_at "rd"
    refine iteF ?_
    refine iteF ?_
    walk_at "rd"
    refine iteT ?_
    walk_at "rd"
    refine iteF ?_
    walk_at "rd"
    refine d_eqD h1 h2 g g ?_
    walk_at "rd"
    rw [ev]
    refine iteT ?_
    walk_at "rd"
    refine d_reprD h1 g (.inr ⟨_, rfl⟩) ?_
    walk_at "rd"
    refine d_reprD h2 g (.inr ⟨_, rfl⟩) ?_
    walk_at "rd"
    rw [decide_eq_true rfl]
    exact q H (Kp.refl _ _)
  · rw [show L2.start ["told", "due"] [.ref a, .ref b] = [some (.ref a), some (.ref b)] from rfl]
    walk_at "rd"
    refine iteT ?_
    walk_at "rd"
    refine iteF ?_
    walk_at "rd"
    refine iteF ?_
    refine iteF ?_
    walk_at "rd"
    refine d_eqD h1 h2 g g ?_
    walk_at "rd"
    rw [ev]
    refine iteT ?_
    walk_at "rd"
    refine d_reprD h1 g (.inl ⟨_, rfl⟩) ?_
    walk_at "rd"
    refine d_reprD h2 g (.inl ⟨_, rfl⟩) ?_
    walk_at "rd"
    rw [decide_eq_true rfl]
    exact q H (Kp.refl _ _)

theorem ok_alikeB {P : Program} {w : World} {K : PySem.W.Frag} {mg : Str → Option Value} {base : Heap} {k : Nat} (D : Df K mg "_law_alike" s_alike ["told", "due"])
    (mi : mg "int" = none) (mt : mg "tuple" = none) (ms : mg "isinstance" = none) (mp : mg "repr" = none) : Cl P w K mg base (k + 1) "_law_alike" ["told", "due"] spAlikeB := by
  refine D.ok sc_alike (fun vs H Q E h => ?_) (fun f cdv A outer s H vs Q E hr h => ?_)
  · obtain ⟨b, rfl, _⟩ := h
    rfl
  obtain ⟨b, rfl, q⟩ := h
  refine ⟨_, pss_cons (ps_if (PW.pt (pw_and (pt_val (pe_callB call_isi (by rfl) ms b_isinstance (pa_cons (pv 1) (pa_cons (pe_bltn (v := .ty "tuple") (by rfl) mt b_tuple rfl) pa_nil))))
        (pw_and1 (pt_not (pt_val (pe_callB call_isi (by rfl) ms b_isinstance (pa_cons (pv 0) (pa_cons (pe_bltn (v := .ty "tuple") (by rfl) mt b_tuple rfl) pa_nil)))))))) (pss_one (ps_ret pe_bl)) pss_nil)
    (pss_cons (ps_if (PW.pt (pw_and (pt_val (pe_callB call_isi (by rfl) ms b_isinstance (pa_cons (pv 1) (pa_cons (pe_bltn (v := .ty "int") (by rfl) mi b_int rfl) pa_nil))))
        (pw_and1 (pt_not (pt_val (pe_callB call_isi (by rfl) ms b_isinstance (pa_cons (pv 0) (pa_cons (pe_bltn (v := .ty "int") (by rfl) mi b_int rfl) pa_nil)))))))) (pss_one (ps_ret pe_bl)) pss_nil)
    (pss_one (ps_ret (pe_and (pe_cmpR op_eq (pv 0) (pv 1) (nomark _)) (pe_one (pe_cmpR op_eq (pe_callB c_reprB (by rfl) mp b_repr (pa_cons (pv 0) pa_nil)) (pe_callB c_reprB (by rfl) mp b_repr (pa_cons (pv 1) pa_nil)) (nomark _))))))), ?_⟩
  rw [show L2.start ["told", "due"] [.bl b, .bl b] = [some (.bl b), some (.bl b)] from rfl]
  walk_at "rd"
  refine d_isBT ?_
  walk_at "rd"
  refine iteF ?_
  refine iteF ?_
  walk_at "rd"
  refine d_isBI ?_
  walk_at "rd"
  refine iteT ?_
  walk_at "rd"
  refine d_isBI ?_
  walk_at "rd"
  refine iteF ?_
  walk_at "rd"
  rw [decide_eq_true rfl]
  refine iteT ?_
  walk_at "rd"
  refine ⟨b, rfl, ?_⟩
  walk_at "rd"
  refine ⟨b, rfl, ?_⟩
  walk_at "rd"
  rw [decide_eq_true rfl]
  exact q

theorem ok_alikeK {P : Program} {w : World} {K : PySem.W.Frag} {mg : Str → Option Value} {base : Heap} {k : Nat} (D : Df K mg "_law_alike" s_alike ["told", "due"])
    (mi : mg "int" = none) (mt : mg "tuple" = none) (ms : mg "isinstance" = none) (mp : mg "repr" = none) : Cl P w K mg base (k + 1) "_law_alike" ["told", "due"] (spAlikeK K) := by
  refine D.ok sc_alike (fun vs H Q E h => ?_) (fun f cdv A outer s H vs Q E hr h => ?_)
  · obtain ⟨a, y, d, o, rfl, _⟩ := h
    rfl
  obtain ⟨a, y, d, o, rfl, lk, lc, h1, h2, g, ⟨b, ys, rfl, e2⟩, q⟩ := h
  refine ⟨_, pss_cons (ps_if (PW.pt (pw_and (pt_val (pe_callB call_isi (by rfl) ms b_isinstance (pa_cons (pv 1) (pa_cons (pe_bltn (v := .ty "tuple") (by rfl) mt b_tuple rfl) pa_nil))))
        (pw_and1 (pt_not (pt_val (pe_callB call_isi (by rfl) ms b_isinstance (pa_cons (pv 0) (pa_cons (pe_bltn (v := .ty "tuple") (by rfl) mt b_tuple rfl) pa_nil)))))))) (pss_one (ps_ret pe_bl)) pss_nil)
    (pss_cons (ps_if (PW.pt (pw_and (pt_val (pe_callB call_isi (by rfl) ms b_isinstance (pa_cons (pv 1) (pa_cons (pe_bltn (v := .ty "int") (by rfl) mi b_int rfl) pa_nil))))
        (pw_and1 (pt_not (pt_val (pe_callB call_isi (by rfl) ms b_isinstance (pa_cons (pv 0) (pa_cons (pe_bltn (v := .ty "int") (by rfl) mi b_int rfl) pa_nil)))))))) (pss_one (ps_ret pe_bl)) pss_nil)
    (pss_one (ps_ret (pe_and (pe_cmpR (op_eqD hr.u64) (pv 0) (pv 1) (nomark _)) (pe_one (pe_cmpR op_eq (pe_callB (c_reprD hr.g hr.u100) (by rfl) mp b_repr (pa_cons (pv 0) pa_nil)) (pe_callB (c_reprD hr.g hr.u100) (by rfl) mp b_repr (pa_cons (pv 1) pa_nil)) (nomark _))))))), ?_⟩
  have ev : PyData.eqv d d = true := PySem.SeqAt.eqv_refl d g.can
  rw [show L2.start ["told", "due"] [.ref a, .ref b] = [some (.ref a), some (.ref b)] from rfl]
  walk_at "rd"
  refine iteT ?_
  walk_at "rd"
  refine d_isKT lk lc ?_
  walk_at "rd"
  refine iteF ?_
  walk_at "rd"
  refine iteF ?_
  refine iteF ?_
  walk_at "rd"
  refine d_eqD h1 h2 g g ?_
  walk_at "rd"
  rw [ev]
  refine iteT ?_
  walk_at "rd"
  refine d_reprD h1 g (.inl ⟨_, rfl⟩) ?_
  walk_at "rd"
  refine d_reprD h2 g (.inl ⟨_, rfl⟩) ?_
  walk_at "rd"
  rw [decide_eq_true rfl]
  exact q H (Kp.refl _ _)

abbrev s_atom : Stmt := top 36
abbrev nAtom : List Str := ["tape", "relations", "symbols", "variables", "depth", "relation", "k"]
theorem sc_atom : FnScope nAtom ["tape", "relations", "symbols", "variables", "depth"] (defScope s_atom) := ⟨rfl, rfl, rfl, by decide +kernel, rfl, by decide +kernel, by decide +kernel⟩
theorem ok_atom {P : Program} {w : World} {K : PySem.W.Frag} {mg : Str → Option Value} {base : Heap} {k m : Nat} (D : Df K mg "_law_atom" s_atom ["tape", "relations", "symbols", "variables", "depth"])
    (cD : Cl P w K mg base k "_law_draw" ["tape", "many"] spDraw) (cT : Cl P w K mg base k "_law_term" ["tape", "symbols", "variables", "depth"] (spTermLe m)) (mr : mg "range" = none) (mt : mg "tuple" = none) (ml : mg "len" = none) : Cl P w K mg base (k + 1) "_law_atom" ["tape", "relations", "symbols", "variables", "depth"] (spAtomLe m) := by
  refine D.ok sc_atom (fun vs H Q E h => ?_) (fun f cdv A outer s H vs Q E hr h => ?_)
  · obtain ⟨d, _, t, sc, re, sy, va, ns, rs, zs, vars, rfl, _⟩ := h
    rfl
  obtain ⟨d, dm, t, sc, re, sy, va, ns, rs, zs, vars, rfl, W, R, r1, r2, z1, z2, v2, q⟩ := h
  refine' ⟨_, pss_cons ?a1 (pss_one ?a2), ?rst⟩
  case a1 => exact ps_set (i := 5) sc_atom.nd rfl (.inl rfl) (pe_ix ix_list (pv 1) (pe_cl cD hr (Nat.le_refl _) (by rfl) (pa_cons (pv 0) (pa_cons (pe_callB c_len (by rfl) ml b_len (pa_cons (pv 1) pa_nil)) pa_nil))) (fun _ _ => rfl))
  case a2 =>
    refine' ps_ret (pe_op op_catT (pe_tup (pa_cons (pe_ix ix_tup (pv 5) pe_int (fun _ _ => rfl)) pa_nil)) (pe_callTy c_tup (by rfl) mt b_tuple (pa_cons ?b1 pa_nil)))
    case b1 =>
      refine' pe_lc (own := [("k", 6)]) (g := gName 6) (by rfl) sc_atom.nd ?c0
        (blkOk_by (own := [("k", 6)]) (N := nAtom) (sc := defScope s_atom) (by decide +kernel)) (fun _ _ _ _ _ => pg_name (i := 6) sc_atom.nd rfl (Or.inl rfl)) (fun _ _ _ _ _ => pts_nil) (fun _ _ _ _ _ => ?c1)
      case c0 => exact pi_range1 (by rfl) mr (pa_cons (pe_ix ix_tup (pv 5) pe_int (fun _ _ => rfl)) pa_nil)
      case c1 => exact pe_cl cT hr (Nat.le_refl _) (by rfl) (pa_cons (pv 0) (pa_cons (pv 2) (pa_cons (pv 3) (pa_cons (pv 4) pa_nil))))
  case rst =>
  rw [show L2.start nAtom [.ref t, .ref re, .ref sy, .ref va, .int ((d : Int) + 1)] = [some (.ref t), some (.ref re), some (.ref sy), some (.ref va), some (.int ((d : Int) + 1)), none, none] from rfl]
  obtain ⟨xs0, eR, lR, _⟩ := id R.is
  have nR := R.ne W.tp
  walk_at "rd"
  rw [List.length_map, lR]
  refine ⟨t, sc, ns, _, rfl, W.tp, by omega, by omega, fun H1 n k1 T1 n0 n1 => ?_⟩
  have W1 := W.tape k1 T1
  have R1 := R.tape W.tp k1 nR
  obtain ⟨xs, r, z, ar, e2, lx, ex, er, nz, a0, a3, ezs⟩ := R1.get (k := n) n0 (by omega)
  walk_at "rd"
  refine d_ixLc e2 ex ?_
  walk_at "rd"
  refine ⟨smallN (show 1 ≤ 1000000 by decide), fun p hp => ?_⟩
  have kp : Kp [] H1 (upd H1 p (.tup [.str z])) := Kp.new hp
  have eP : (upd H1 p (.tup [.str z])) p = some (.tup [.str z]) := upd_same
  have W2 := W1.nil (kp.mono (by simp))
  have er2 := kp _ _ (by simp) er
  have npt : p ≠ t := fun z => T1.t_some hp z.symm
  generalize (upd H1 p (.tup [.str z])) = H2 at kp eP W2 er2 ⊢
  walk_at "rd"
  refine ⟨by omega, by omega, fun D hD => ?_⟩
  have npD : p ≠ D := ne_of_none eP hD
  refine lb_terms (m := m) (d := d) hD W2 z1 z2 v2 (by omega) (fun j H' Q2 h => ?_) dm (fun H3 vs ts kD eD aD lD gD W3 => ?_)
  · show tCall (spTermLe m) [] E0 _ [some (.ref t), some (.ref re), some (.ref sy), some (.ref va), some (.int ((d : Int) + 1)), some (.ref r), some (.int (0 + (j : Nat)))] H' Q2
    walk_at "rd"
    exact h
  · have eP3 := kD _ _ (by simp [npD, npt]) eP
    walk_at "rd"
    intro l hl
    have k4 : Kp [] H3 (upd H3 l (.tup vs)) := Kp.new hl
    have T4 := W3.tp.nil k4
    have lA := aD.len
    have kk : Kp [t] H (upd H3 l (.tup vs)) := ((k1.trans (kp.mono (by simp))).trans (kD.less hD)).trans (k4.mono (by simp))
    have ga : GenA rs zs vars d (.app z ts) := ⟨z, ar, ts, rfl, List.mem_of_getElem? ezs, lD, gD⟩
    refine d_catT (k4 _ _ (by simp) eP3) upd_same (by simp) (by show 1 + vs.length ≤ 1000000; omega) (fun hv => ?_) (fun hv r2 hr3 => ?_)
    · subst hv
      exact q _ _ _ kk T4 (.of (k4 _ _ (by simp) eP3) (k4.ats (by simp) aD)) ga
    · have k5 : Kp [] (upd H3 l (.tup vs)) (upd (upd H3 l (.tup vs)) r2 (.tup ([.str z] ++ vs))) := Kp.new hr3
      exact q _ _ _ (kk.trans (k5.mono (by simp))) (T4.nil k5) (.of (vs := vs) upd_same ((k4.ats (by simp) aD).keep (k5.keepT (by simp)))) ga

abbrev s_relations : Stmt := top 37
theorem sc_relations : FnScope ["tape", "many", "relations", "k"] ["tape", "many"] (defScope s_relations) := ⟨rfl, rfl, rfl, by decide +kernel, rfl, by decide +kernel, by decide +kernel⟩
theorem ok_relations {P : Program} {w : World} {K : PySem.W.Frag} {mg : Str → Option Value} {base : Heap} {k : Nat} (D : Df K mg "_law_relations" s_relations ["tape", "many"])
    (cD : Cl P w K mg base k "_law_draw" ["tape", "many"] spDraw) (cW : Cl P w K mg base k "_law_word" ["tape", "stem"] spWord) (mr : mg "range" = none) : Cl P w K mg base (k + 1) "_law_relations" ["tape", "many"] spRels := by
  refine D.ok sc_relations (fun vs H Q E h => ?_) (fun f cdv A outer s H vs Q E hr h => ?_)
  · obtain ⟨t, sc, ns, z, rfl, _⟩ := h
    rfl
  obtain ⟨t, sc, ns, many, rfl, T, m1, m2, q⟩ := h
  refine' ⟨_, pss_cons ?a1 (pss_cons ?a2 (pss_one ?a3)), ?rst⟩
  case a1 => exact ps_set (i := 2) sc_relations.nd rfl (.inl rfl) (pe_lst pa_nil)
  case a2 =>
    refine' ps_for PassesOwn.never rfl ?b1 ?b2 (pss_one ?b3)
    case b1 => exact pi_range1 (by rfl) mr (pa_cons (pv 1) pa_nil)
    case b2 => exact pg_name (i := 3) sc_relations.nd rfl (.inl rfl)
    case b3 =>
      refine' ps_expr (pe_bm PySem.F.plainAttrs_list PySem.F.slot_list_append PySem.F.type_list_append mt_append (pv 2) (pa_cons (pe_tup (pa_cons ?c1 (pa_cons ?c2 pa_nil))) pa_nil))
      case c1 => exact pe_cl cW hr (Nat.le_refl _) (by rfl) (pa_cons (pv 0) (pa_cons pe_str pa_nil))
      case c2 => exact pe_ix ix_list (pe_lst (pa_cons pe_int (pa_cons pe_int (pa_cons pe_int (pa_cons pe_int (pa_cons pe_int (pa_cons pe_int pa_nil))))))) (pe_cl cD hr (Nat.le_refl _) (by rfl) (pa_cons (pv 0) (pa_cons pe_int pa_nil))) (fun _ _ => rfl)
  case a3 => exact ps_ret (pv 2)
  case rst =>
  rw [show L2.start ["tape", "many", "relations", "k"] [.ref t, .int many] = [some (.ref t), some (.int many), none, none] from rfl]
  walk_at "rd"
  refine ⟨Nat.zero_le _, fun p hp => ?_⟩
  walk_at "rd"
  refine ⟨by omega, by omega, ?_⟩
  have pt : p ≠ t := fun z => T.t_some hp z.symm
  have ps : p ≠ sc := fun z => T.s_some hp z.symm
  have kp0 : Kp [p, t] H (upd H p (.lst [])) := Kp.new hp
  refine fr_range (fun i σ H2 => ∃ zs k3 u, σ = [some (.ref t), some (.int many), some (.ref p), k3] ∧ u = 0 ∧ Kp [p, t] H H2 ∧ TapeAt H2 t sc ns ∧ SymsAt H2 p zs ∧ zs.length = i)
    ⟨[], none, 0, rfl, rfl, kp0, T.nil (Kp.new hp), SymsAt.nil upd_same, rfl⟩ (fun i σ H2 hi h2 => ?_) (fun σ H2 h2 => ?_)
  · obtain ⟨zs, k3, _, rfl, _, k2, T2, S2, len2⟩ := h2
    obtain ⟨rs3, e3, _, _⟩ := id S2.is
    walk_at "rd"
    refine ⟨t, sc, ns, _, rfl, T2, stem0, fun H3 z k3 T3 nz => ?_⟩
    have S3 := S2.tape T2 k3 pt
    walk_at "rd"
    refine ⟨smallN (show 6 ≤ 1000000 by decide), fun l2 hl2 => ?_⟩
    walk_at "rd"
    have k4 : Kp [t] H3 (upd H3 l2 (.lst [.int 1, .int 2, .int 1, .int 2, .int 3, .int 0])) := Kp.new hl2
    have T4 := T3.nil (Kp.new (o := .lst [.int 1, .int 2, .int 1, .int 2, .int 3, .int 0]) hl2)
    have S4 := S3.tape T3 k4 pt
    have nl : l2 ≠ t := fun z => T3.t_some hl2 z.symm
    refine ⟨t, sc, ns, _, rfl, T4, by decide, by decide, fun H5 n5 k5' T5 m0 m1 => ?_⟩
    have S5 := S4.tape T4 k5' pt
    have hl5 := kept_at k5' nl upd_same
    obtain ⟨ar, e5, a0, a3⟩ : ∃ ar : Int, atI [V.int 1, V.int 2, V.int 1, V.int 2, V.int 3, V.int 0] n5 = some (.int ar) ∧ 0 ≤ ar ∧ ar ≤ 3 := by
      have hn : n5 = 0 ∨ n5 = 1 ∨ n5 = 2 ∨ n5 = 3 ∨ n5 = 4 ∨ n5 = 5 := by omega
      rcases hn with rfl | rfl | rfl | rfl | rfl | rfl <;> exact ⟨_, rfl, by decide, by decide⟩
    refine d_ixLc hl5 e5 ?_
    walk_at "rd"
    refine ⟨smallN (show 2 ≤ 1000000 by decide), fun r hr5 => ?_⟩
    have k6' : Kp [t] H5 (upd H5 r (.tup [.str z, .int ar])) := Kp.new hr5
    have S6 := S5.tape T5 k6' pt
    have T6 := T5.nil (Kp.new (o := .tup [.str z, .int ar]) hr5)
    obtain ⟨rs6, e6, l6, _⟩ := id S6.is
    walk_at "rd"
    refine d_app e6 (by rw [List.length_map, l6, len2]; omega) ?_
    refine ⟨zs ++ [(z, ar)], _, 0, rfl, rfl, ?_, ?_, S6.push e6 upd_same nz a0 a3, by rw [List.length_append, len2]; rfl⟩
    · exact k2.trans ((((k3.trans k4).trans k5').trans k6').mono (fun b hb => List.mem_cons_of_mem _ hb) |>.trans (Kp.put (by simp)))
    · exact T6.keep (l := [p]) (Kp.put (by simp)) (by simpa using Ne.symm pt) (by simpa using Ne.symm ps)
  · obtain ⟨zs, k3, _, rfl, _, k2, T2, S2, len2⟩ := h2
    walk_at "rd"
    exact q _ p zs (k2.less hp) T2 hp S2 (by omega)

abbrev s_ruleover : Stmt := top 38
abbrev nRuleOver : List Str := ["tape", "name", "heads", "bodies", "symbols", "many", "premises", "variables", "k", "atoms"]
theorem sc_ruleover : FnScope nRuleOver ["tape", "name", "heads", "bodies", "symbols", "many", "premises"] (defScope s_ruleover) := ⟨rfl, rfl, rfl, by decide +kernel, rfl, by decide +kernel, by decide +kernel⟩
theorem ok_ruleover {P : Program} {w : World} {K : PySem.W.Frag} {mg : Str → Option Value} {base : Heap} {k : Nat} (D : Df K mg "_law_rule_over" s_ruleover ["tape", "name", "heads", "bodies", "symbols", "many", "premises"])
    (cD : Cl P w K mg base k "_law_draw" ["tape", "many"] spDraw) (cT : Cl P w K mg base k "_law_term" ["tape", "symbols", "variables", "depth"] (spTermLe 2)) (cA : Cl P w K mg base k "_law_atom" ["tape", "relations", "symbols", "variables", "depth"] (spAtomLe 2))
    (cN : Cl P w K mg base k "_law_numbered" ["terms"] (spLNumbered 10)) (mr : mg "range" = none) (mt : mg "tuple" = none) : Cl P w K mg base (k + 1) "_law_rule_over" ["tape", "name", "heads", "bodies", "symbols", "many", "premises"] spRuleOver := by
  refine D.ok sc_ruleover (fun vs H Q E h => ?_) (fun f cdv A outer s H vs Q E hr h => ?_)
  · obtain ⟨t, sc, hd, bd, sy, ns, hs, bs, zs, name, many, prem, rfl, _⟩ := h
    rfl
  obtain ⟨t, sc, hd, bd, sy, ns, hs, bs, zs, name, many, prem, rfl, T, Sh, Sb, Sz, ⟨h1, h2⟩, ⟨b1, b2⟩, ⟨z1, z2⟩, lm, lp, q⟩ := h
  refine' ⟨_, pss_cons ?a1 (pss_cons ?a2 (pss_cons ?a3 (pss_cons ?a4 (pss_one ?a5)))), ?rst⟩
  case a1 =>
    refine' ps_setLc (i := 7) (own := [("k", 8)]) (g := gName 8) (by rfl) sc_ruleover.nd rfl rfl (sw_true rfl rfl rfl (by decide +kernel)) ?b0
      (blkOk_by (own := [("k", 8)]) (N := nRuleOver) (sc := defScope s_ruleover) (by decide +kernel)) (fun _ _ _ _ _ => pg_name (i := 8) sc_ruleover.nd rfl (Or.inl rfl)) (fun _ _ _ _ _ => pts_nil) (fun _ _ _ _ _ => pv 8)
    case b0 => exact pi_range1 (by rfl) mr (pa_cons (pv 5) pa_nil)
  case a2 => exact ps_set (i := 9) sc_ruleover.nd rfl (.inl rfl) (pe_lst (pa_cons (pe_cl cA hr (Nat.le_refl _) (by rfl) (pa_cons (pv 0) (pa_cons (pv 2) (pa_cons (pv 4) (pa_cons (pv 7) (pa_cons pe_int pa_nil)))))) pa_nil))
  case a3 =>
    refine' ps_for PassesOwn.never rfl ?b1 ?b2 (pss_one (ps_if ?b3 (pss_one ?b4) (pss_one ?b5)))
    case b1 => exact pi_range1 (by rfl) mr (pa_cons (pv 6) pa_nil)
    case b2 => exact pg_name (i := 8) sc_ruleover.nd rfl (.inl rfl)
    case b3 => exact pt_cmpR op_eq (pe_cl cD hr (Nat.le_refl _) (by rfl) (pa_cons (pv 0) (pa_cons pe_int pa_nil))) pe_int (nomark _)
    case b4 =>
      refine' ps_expr (pe_bm PySem.F.plainAttrs_list PySem.F.slot_list_append PySem.F.type_list_append mt_append (pv 9) (pa_cons (pe_tup (pa_cons pe_str (pa_cons ?c1 (pa_cons ?c2 pa_nil)))) pa_nil))
      case c1 => exact pe_cl cT hr (Nat.le_refl _) (by rfl) (pa_cons (pv 0) (pa_cons (pv 4) (pa_cons (pv 7) (pa_cons pe_int pa_nil))))
      case c2 => exact pe_cl cT hr (Nat.le_refl _) (by rfl) (pa_cons (pv 0) (pa_cons (pv 4) (pa_cons (pv 7) (pa_cons pe_int pa_nil))))
    case b5 =>
      refine' ps_expr (pe_bm PySem.F.plainAttrs_list PySem.F.slot_list_append PySem.F.type_list_append mt_append (pv 9) (pa_cons ?c1 pa_nil))
      case c1 => exact pe_cl cA hr (Nat.le_refl _) (by rfl) (pa_cons (pv 0) (pa_cons (pv 3) (pa_cons (pv 4) (pa_cons (pv 7) (pa_cons (pe_op op_add pe_int (pe_cl cD hr (Nat.le_refl _) (by rfl) (pa_cons (pv 0) (pa_cons pe_int pa_nil)))) pa_nil)))))
  case a4 => exact ps_set (i := 9) sc_ruleover.nd rfl (.inl rfl) (pe_cl cN hr (Nat.le_refl _) (by rfl) (pa_cons (pv 9) pa_nil))
  case a5 => exact ps_ret (pe_tup (pa_cons (pv 1) (pa_cons (pe_callTy c_tup (by rfl) mt b_tuple (pa_cons (pe_slice sl_list (pv 9) (po_some pe_int) po_none) pa_nil)) (pa_cons (pe_ix ix_list (pv 9) pe_int (fun _ _ => rfl)) pa_nil))))
  case rst =>
  rw [show L2.start nRuleOver [.ref t, .str name, .ref hd, .ref bd, .ref sy, .int many, .int prem] = [some (.ref t), some (.str name), some (.ref hd), some (.ref bd), some (.ref sy), some (.int many), some (.int prem), none, none, none] from rfl]
  walk_at "rd"
  refine ⟨by omega, by omega, fun va hva => ?_⟩
  rw [Int.toNat_natCast]
  refine lb_range (fun j H' => H' va = some (.lst ((intsTo j).map V.int)) ∧ Kp [va] H H') ⟨upd_same, Kp.new hva⟩ (fun j H' hj h' => ?_) (fun H1 h' => ?_)
  · obtain ⟨e, k1⟩ := h'
    refine ⟨rfl, ?_⟩
    refine d_var rfl ?_
    refine ⟨_, e, smallL (by rw [List.length_map, len_intsTo]; omega), ?_, k1.trans (Kp.put (by simp))⟩
    rw [upd_same, intsTo_succ, List.map_append, Int.zero_add]
    rfl
  obtain ⟨e1, k1⟩ := h'
  have k1 : Kp [] H H1 := k1.less hva
  have W1 := (Tw.start T).nil k1
  have V1 : VarsAt H1 va ((intsTo many).map Tm.var) := ⟨⟨_, e1, ats_ints (intsTo many)⟩⟩
  have lv : ((intsTo many).map Tm.var).length ≤ 100000 := by rw [List.length_map, len_intsTo]; omega
  have w := W1.re
  have Sh1 := W1.syms Sh
  have Sb1 := W1.syms Sb
  have Sz1 := W1.syms Sz
  walk_at "rd"
  refine ⟨1, by decide, t, sc, hd, sy, va, ns, hs, zs, _, rfl, ⟨w.n, Sz1, V1⟩, Sh1, h1, by omega, z1, by omega, lv, fun H2 v2 c0 k2 T2 a2 g2' => ?_⟩
  have w2 := w.tape k2 T2
  walk_at "rd"
  refine ⟨smallN (show 1 ≤ 1000000 by decide), fun l hl => ?_⟩
  have kl : Kp [] H2 (upd H2 l (.lst [v2])) := Kp.new hl
  have w3 := w2.nil kl
  have el : (upd H2 l (.lst [v2])) l = some (.lst [v2]) := upd_same
  have hl1 := w2.free hl
  have a3 := kl.ats (by simp) (Ats.one a2)
  have nlt : l ≠ t := fun z => T2.t_some hl z.symm
  generalize (upd H2 l (.lst [v2])) = H3 at kl w3 el a3 ⊢
  walk_at "rd"
  refine ⟨by omega, by omega, ?_⟩
  rw [Int.toNat_natCast]
  refine fr_range (fun i σ H' => ∃ x8 ws ps0, σ = [some (.ref t), some (.str name), some (.ref hd), some (.ref bd), some (.ref sy), some (.int many), some (.int prem), some (.ref va), x8, some (.ref l)] ∧ Tw H1 H' t sc ns ∧ H' l = some (.lst ws) ∧ Ats H' ws (c0 :: ps0) ∧ ps0.length = i ∧ ∀ a ∈ ps0, AtomOk bs zs ((intsTo many).map Tm.var) 1 a)
    ⟨none, [v2], [], rfl, w3, el, a3, rfl, fun a h => nomatch h⟩ (fun i σ H' hi h' => ?_) (fun σ H' h' => ?_)
  · obtain ⟨x8, ws, ps0, rfl, w4, e4, a4, l4, g4⟩ := h'
    have la := a4.len
    rw [List.length_cons] at la
    walk_at "rd"
    refine ⟨t, sc, ns, 12, rfl, w4.n, by decide, by decide, fun H5 n k5 T5 n0 n1 => ?_⟩
    have w5 := w4.tape k5 T5
    have e5 := kept_at k5 nlt e4
    have a5 := a4.keep (w4.n.keepT k5)
    walk_at "rd"
    have fin : ∀ (H6 : Hp) (v : V) (a : Tm), Tw H1 H6 t sc ns → H6 l = some (.lst ws) → Ats H6 ws (c0 :: ps0) → At H6 v a → AtomOk bs zs ((intsTo many).map Tm.var) 1 a →
        ∃ y8 ws2 ps2, [some (V.ref t), some (.str name), some (.ref hd), some (.ref bd), some (.ref sy), some (.int many), some (.int prem), some (.ref va), some (.int (0 + (i : Int))), some (.ref l)] = [some (.ref t), some (.str name), some (.ref hd), some (.ref bd), some (.ref sy), some (.int many), some (.int prem), some (.ref va), y8, some (.ref l)] ∧
        Tw H1 (upd H6 l (.lst (ws ++ [v]))) t sc ns ∧ (upd H6 l (.lst (ws ++ [v]))) l = some (.lst ws2) ∧ Ats (upd H6 l (.lst (ws ++ [v]))) ws2 (c0 :: ps2) ∧ ps2.length = i + 1 ∧ ∀ a ∈ ps2, AtomOk bs zs ((intsTo many).map Tm.var) 1 a := fun H6 v a w6 e6 a6 av ok => by
      have kT := (Kp.put (H := H6) (p := l) (o := .lst (ws ++ [v])) (l := [l]) (by simp)).keepT (no_tup1 e6)
      refine ⟨_, ws ++ [v], ps0 ++ [a], rfl, w6.put hl1, upd_same, (a6.append (.one av)).keep kT, by rw [List.length_append, l4]; rfl, fun x hx => ?_⟩
      rcases List.mem_append.mp hx with hx | hx
      · exact g4 x hx
      · rw [List.mem_singleton.mp hx]; exact ok
    refine ite_dc (fun c => ?_) (fun c => ?_)
    · walk_at "rd"
      refine ⟨1, by decide, t, sc, sy, va, ns, zs, _, rfl, w5.n, w5.syms Sz1, z1, by omega, w5.vars V1, lv, fun H6 x6 u6 k6 T6 a6 g6 => ?_⟩
      have w6 := w5.tape k6 T6
      walk_at "rd"
      refine ⟨1, by decide, t, sc, sy, va, ns, zs, _, rfl, w6.n, w6.syms Sz1, z1, by omega, w6.vars V1, lv, fun H7 x7 u7 k7 T7 a7 g7 => ?_⟩
      have w7 := w6.tape k7 T7
      have e7 := kept_at k7 nlt (kept_at k6 nlt e5)
      have a57 := (a5.keep (w5.n.keepT k6)).keep (w6.n.keepT k7)
      have a67 := a6.keep (w6.n.keepT k7)
      walk_at "rd"
      refine ⟨smallN (show 3 ≤ 1000000 by decide), fun p hp => ?_⟩
      have kp : Kp [] H7 (upd H7 p (.tup [.str "=", x6, x7])) := Kp.new hp
      walk_at "rd"
      refine d_app (kp _ _ (by simp) e7) (by omega) ?_
      exact fin _ _ _ (w7.nil kp) (kp _ _ (by simp) e7) (kp.ats (by simp) a57) (.of (vs := [x6, x7]) upd_same ((Ats.cons a67 (.one a7)).keep (kp.keepT (by simp)))) (.inr ⟨u6, u7, rfl, ⟨1, Nat.le_refl _, g6⟩, 1, Nat.le_refl _, g7⟩)
    · walk_at "rd"
      refine ⟨t, sc, ns, 2, rfl, w5.n, by decide, by decide, fun H6 m k6 T6 m0 m1 => ?_⟩
      have w6 := w5.tape k6 T6
      walk_at "rd"
      refine ⟨m.toNat, by omega, t, sc, bd, sy, va, ns, bs, zs, _, by rw [show (1 + m : Int) = (m.toNat : Int) + 1 by omega], ⟨w6.n, w6.syms Sz1, w6.vars V1⟩, w6.syms Sb1, b1, by omega, z1, by omega, lv, fun H7 v7 a7' k7 T7 a7 g7 => ?_⟩
      have w7 := w6.tape k7 T7
      have e7 := kept_at k7 nlt (kept_at k6 nlt e5)
      have a57 := (a5.keep (w5.n.keepT k6)).keep (w6.n.keepT k7)
      walk_at "rd"
      refine d_app e7 (by omega) ?_
      exact fin _ _ _ w7 e7 a57 a7 (.inl ⟨m.toNat, by omega, g7⟩)
  · obtain ⟨x8, ws, ps0, rfl, w4, e4, a4, l4, g4⟩ := h'
    have okz := Sz.ok
    have hv := vars_nice (is := intsTo many) fun i hi => by
      obtain ⟨k0, hk, rfl⟩ := List.mem_map.mp hi
      have := List.mem_range.mp hk
      omega
    have gT : ∀ {u : Tm}, Gen zs ((intsTo many).map Tm.var) 1 u → u.Nice ∧ u.depth ≤ 2 ∧ u.size ≤ 4 := fun g => ⟨g.nice (fun z hz => txt_of_name (okz z hz).1) (fun x hx => (hv x hx).1), g.depth (fun x hx => (hv x hx).2.1) (Nat.le_refl _), g.size (fun z hz => (okz z hz).2.2) (fun x hx => (hv x hx).2.2) (Nat.le_refl _)⟩
    have gT0 : ∀ {u : Tm}, Gen zs ((intsTo many).map Tm.var) 0 u → u.Nice ∧ u.depth ≤ 2 ∧ u.size ≤ 4 := fun g => ⟨g.nice (fun z hz => txt_of_name (okz z hz).1) (fun x hx => (hv x hx).1), by have := g.depth (fun x hx => (hv x hx).2.1) (Nat.le_refl _); omega, Nat.le_trans (g.size (fun z hz => (okz z hz).2.2) (fun x hx => (hv x hx).2.2) (Nat.le_refl _)) (by decide)⟩
    have all : ∀ a ∈ c0 :: ps0, a.Nice ∧ a.depth ≤ 3 ∧ a.size ≤ 13 := fun a ha => by
      rcases List.mem_cons.mp ha with rfl | ha
      · exact g2'.facts Sh.ok gT
      · rcases g4 a ha with ⟨e0, he, g⟩ | ⟨x, y, rfl, ⟨e1, h1', gx⟩, e2', h2', gy⟩
        · have he : e0 = 0 ∨ e0 = 1 := by omega
          rcases he with rfl | rfl
          · exact g.facts Sb.ok gT0
          · exact g.facts Sb.ok gT
        · have gE : ∀ {e : Nat} {u : Tm}, e ≤ 1 → Gen zs ((intsTo many).map Tm.var) e u → u.Nice ∧ u.depth ≤ 2 ∧ u.size ≤ 4 := fun {e u} he g => by
            have he : e = 0 ∨ e = 1 := by omega
            rcases he with rfl | rfl
            · exact gT0 g
            · exact gT g
          obtain ⟨x1, x2, x3⟩ := gE h1' gx
          obtain ⟨y1, y2, y3⟩ := gE h2' gy
          refine ⟨?_, ?_, ?_⟩
          · rw [Tm.nice_app, Tm.nices_cons, Tm.nices_cons]; exact ⟨txt_eq, x1, y1, Tm.nices_nil⟩
          · rw [Tm.depth_app, Tm.depths_cons, Tm.depths_cons, Tm.depths_nil]; omega
          · rw [Tm.size_app, Tm.sizes_cons, Tm.sizes_cons, Tm.sizes_nil]; omega
    have hz := Tm.sizes_le fun a ha => (all a ha).2.2
    rw [List.length_cons, l4] at hz
    walk_at "rd"
    refine ⟨l, ws, c0 :: ps0, rfl, e4, a4, fun a ha => by have := (all a ha).2.1; omega, by omega, fun H5 p ys k5 _ e5 a5 => ?_⟩
    have w5 := w4.nil k5
    obtain ⟨c, ps, en⟩ : ∃ c ps, c :: ps = numd (c0 :: ps0) := by unfold numd; exact ⟨_, _, rfl⟩
    have ln := a5.len
    rw [← en] at a5 ln
    obtain ⟨y0, yr, rfl⟩ : ∃ y0 yr, ys = y0 :: yr := by
      cases ys with
      | nil => simp at ln
      | cons y0 yr => exact ⟨y0, yr, rfl⟩
    have l5 := len_numd (c0 :: ps0)
    rw [← en, List.length_cons, List.length_cons] at l5
    rw [List.length_cons, List.length_cons] at ln
    walk_at "rd"
    refine d_slL e5 (fun r hr5 => ?_)
    rw [cutV_drop _ _ (by decide)]
    have k6 : Kp [] H5 (upd H5 r (.lst ((y0 :: yr).drop (Int.toNat 1)))) := Kp.new hr5
    have e6 := k6 _ _ (by simp) e5
    have a6 := k6.ats (by simp) a5
    have w6 := w5.nil k6
    have er6 : (upd H5 r (.lst ((y0 :: yr).drop (Int.toNat 1)))) r = some (.lst yr) := upd_same
    generalize (upd H5 r (.lst ((y0 :: yr).drop (Int.toNat 1)))) = H6 at k6 e6 a6 w6 er6 ⊢
    walk_at "rd"
    intro r2 hr6
    have k7 : Kp [] H6 (upd H6 r2 (.tup yr)) := Kp.new hr6
    have e7 := k7 _ _ (by simp) e6
    have a7 := k7.ats (by simp) a6
    have w7 := w6.nil k7
    have er7 : (upd H6 r2 (.tup yr)) r2 = some (.tup yr) := upd_same
    generalize (upd H6 r2 (.tup yr)) = H7 at k7 e7 a7 w7 er7 ⊢
    walk_at "rd"
    refine d_ixLc e7 (v := y0) (atI_of (by decide) rfl) ?_
    walk_at "rd"
    refine ⟨smallN (show 3 ≤ 1000000 by decide), fun p2 hp2 => ?_⟩
    have k8 : Kp [] H7 (upd H7 p2 (.tup [.str name, .ref r2, y0])) := Kp.new hp2
    have w8 := w7.nil k8
    refine q _ p2 r2 y0 yr c c0 ps ps0 ((k1.mono (by simp)).trans w8.k) w8.n (fresh0 k1 (w7.free hp2)) upd_same (k8 _ _ (by simp) er7) ((a7.head).keep (k8.keepT (by simp))) ((a7.tail).keep (k8.keepT (by simp))) en g2' g4 l4

abbrev s_lrule : Stmt := top 39
theorem sc_lrule : FnScope ["tape", "name", "relations", "symbols", "many", "premises"] ["tape", "name", "relations", "symbols", "many", "premises"] (defScope s_lrule) := ⟨rfl, rfl, rfl, by decide +kernel, rfl, by decide +kernel, by decide +kernel⟩
theorem ok_lrule {P : Program} {w : World} {K : PySem.W.Frag} {mg : Str → Option Value} {base : Heap} {k : Nat} (D : Df K mg "_law_rule" s_lrule ["tape", "name", "relations", "symbols", "many", "premises"])
    (cO : Cl P w K mg base k "_law_rule_over" ["tape", "name", "heads", "bodies", "symbols", "many", "premises"] spRuleOver) : Cl P w K mg base (k + 1) "_law_rule" ["tape", "name", "relations", "symbols", "many", "premises"] spRule := by
  refine D.ok sc_lrule (fun vs H Q E h => ?_) (fun f cdv A outer s H vs Q E hr h => ?_)
  · obtain ⟨t, sc, bd, sy, ns, bs, zs, name, many, prem, rfl, _⟩ := h
    rfl
  obtain ⟨t, sc, bd, sy, ns, bs, zs, name, many, prem, rfl, T, Sb, Sz, hb, hz, lm, lp, q⟩ := h
  refine' ⟨_, pss_one (ps_ret ?a1), ?rst⟩
  case a1 => exact pe_cl cO hr (Nat.le_refl _) (by rfl) (pa_cons (pv 0) (pa_cons (pv 1) (pa_cons (pv 2) (pa_cons (pv 2) (pa_cons (pv 3) (pa_cons (pv 4) (pa_cons (pv 5) pa_nil)))))))
  case rst =>
  rw [show L2.start ["tape", "name", "relations", "symbols", "many", "premises"] [.ref t, .str name, .ref bd, .ref sy, .int many, .int prem] = [some (.ref t), some (.str name), some (.ref bd), some (.ref sy), some (.int many), some (.int prem)] from rfl]
  walk_at "rd"
  exact ⟨t, sc, bd, bd, sy, ns, bs, bs, zs, name, many, prem, rfl, T, Sb, Sb, Sz, hb, hb, hz, lm, lp, q⟩

abbrev s_occ : Stmt := top 1
theorem sc_occ : FnScope ["term", "found", "waiting", "part"] ["term"] (defScope s_occ) := ⟨rfl, rfl, rfl, by decide +kernel, rfl, by decide +kernel, by decide +kernel⟩
theorem ok_occ {P : Program} {w : World} {K : PySem.W.Frag} {mg : Str → Option Value} {base : Heap} {k : Nat} (D : Df K mg "occurrences_in" s_occ ["term"])
    (mi : mg "int" = none) (ms : mg "isinstance" = none) : Cl P w K mg base (k + 1) "occurrences_in" ["term"] spOcc := by
  refine D.ok sc_occ (fun vs H Q E h => ?_) (fun f cdv A outer s H vs Q E hr h => ?_)
  · obtain ⟨v, tm, rfl, _⟩ := h
    rfl
  obtain ⟨v, tm, rfl, hv, hz, q⟩ := h
  refine ⟨_, pss_cons (ps_set (i := 1) sc_occ.nd rfl (.inl rfl) (pe_lst pa_nil))
    (pss_cons (ps_set (i := 2) sc_occ.nd rfl (.inl rfl) (pe_lst (pa_cons (pv 0) pa_nil)))
    (pss_cons (ps_while PassesOwn.never (p_tru (pv 2))
      (pss_cons (ps_set (i := 3) sc_occ.nd rfl (.inl rfl) (pe_bm0 PySem.F.plainAttrs_list PySem.F.slot_list_pop PySem.F.type_list_pop mt_pop (pv 2)))
      (pss_cons (ps_expr (pe_bm PySem.F.plainAttrs_list PySem.F.slot_list_append PySem.F.type_list_append mt_append (pv 1) (pa_cons (pv 3) pa_nil)))
      (pss_one (ps_if (pt_not (pt_val (pe_callB call_isi (by rfl) ms b_isinstance (pa_cons (pv 3) (pa_cons (pe_bltn (v := .ty "int") (by rfl) mi b_int rfl) pa_nil)))))
        (pss_one (ps_expr (pe_bm PySem.F.plainAttrs_list PySem.F.slot_list_extend PySem.F.type_list_extend mt_extT (pv 2) (pa_cons (pe_downT (pv 3)) pa_nil)))) pss_nil)))))
    (pss_one (ps_ret (pv 1))))), ?_⟩
  rw [show L2.start ["term", "found", "waiting", "part"] [v] = [some v, none, none, none] from rfl]
  walk_at "rd"
  refine ⟨Nat.zero_le _, fun pf hf => ?_⟩
  walk_at "rd"
  refine ⟨smallN (show 1 ≤ 1000000 by decide), fun pw hw => ?_⟩
  walk_at "rd"
  have nfw : pf ≠ pw := fun z => by rw [← z, upd_same] at hw; cases hw
  have hw0 : H pw = none := by rw [upd_ne (Ne.symm nfw)] at hw; exact hw
  have kk : Kp [pf, pw] H (upd (upd H pf (.lst [])) pw (.lst [v])) := (Kp.new hf).trans (Kp.new hw)
  have kN : KeepT H (upd (upd H pf (.lst [])) pw (.lst [v])) := ((Kp.new (l := []) hf).trans (Kp.new hw)).keepT (by simp)
  refine d_while (m0 := Tm.sizes [tm]) (fun m σ H2 => ∃ fs ws ft wt part, σ = [some v, some (.ref pf), some (.ref pw), part] ∧ H2 pf = some (.lst fs) ∧ H2 pw = some (.lst ws) ∧ Ats H2 fs ft ∧ Ats H2 ws wt ∧
    ft ++ Tm.occs wt.reverse = tm.occ ∧ Kp [pf, pw] H H2 ∧ m = Tm.sizes wt)
    ⟨[], [v], [], [tm], none, rfl, by rw [upd_ne nfw, upd_same], upd_same, .nil, .one (hv.keep kN), by rw [List.reverse_singleton, Tm.occs_cons, Tm.occs_nil, List.append_nil, List.nil_append], kk, rfl⟩ (fun m σ H2 h2 => ?_)
  obtain ⟨fs, ws, ft, wt, part, rfl, eF, eW, aF, aW, oc, kW, rfl⟩ := h2
  have lenO : ft.length + Tm.sizes wt = tm.size := by
    have := congrArg List.length oc
    rw [List.length_append, Tm.occs_len, Tm.sizes_reverse, Tm.occ_len] at this
    exact this
  have l1 := aF.len
  walk_at "rd"
  by_cases hn : ws = []
  · subst hn
    have hwt : wt = [] := List.length_eq_zero_iff.mp aW.len.symm
    subst hwt
    refine iteF ?_
    walk_at "rd"
    rw [List.reverse_nil, Tm.occs_nil, List.append_nil] at oc
    refine q H2 pf fs ((kW.less hf).less hw0) hf eF (by rw [← oc]; exact aF)
  · obtain ⟨ys, y, us, u, rfl, rfl, aY, ay⟩ := aW.snoc hn
    have hne : (!(ys ++ [y]).isEmpty) = true := by cases ys <;> rfl
    rw [hne]
    refine iteT ⟨_, fun _ _ h => h, ?_⟩
    walk_at "rd"
    refine d_popL eW ?_
    have e1 : (upd H2 pw (.lst ys)) pf = some (.lst fs) := by rw [upd_ne nfw]; exact eF
    have k1 : Kp [pw] H2 (upd H2 pw (.lst ys)) := Kp.put (by simp)
    have aF1 := k1.ats (no_tup1 eW) aF
    have aY1 := k1.ats (no_tup1 eW) aY
    have ay1 := ay.keep (k1.keepT (no_tup1 eW))
    have eW1 : (upd H2 pw (.lst ys)) pw = some (.lst ys) := upd_same
    generalize (upd H2 pw (.lst ys)) = H3 at e1 k1 aF1 aY1 ay1 eW1 ⊢
    walk_at "rd"
    rw [Tm.sizes_append, Tm.sizes_cons, Tm.sizes_nil] at lenO
    have up := u.size_pos
    refine d_app e1 (by omega) ?_
    have e2 : (upd H3 pf (.lst (fs ++ [y]))) pf = some (.lst (fs ++ [y])) := upd_same
    have k2 : Kp [pf] H3 (upd H3 pf (.lst (fs ++ [y]))) := Kp.put (by simp)
    have aF2 := (k2.ats (no_tup1 e1) aF1).append (.one (ay1.keep (k2.keepT (no_tup1 e1))))
    have aY2 := k2.ats (no_tup1 e1) aY1
    have ay2 := ay1.keep (k2.keepT (no_tup1 e1))
    have eW2 : (upd H3 pf (.lst (fs ++ [y]))) pw = some (.lst ys) := by rw [upd_ne (Ne.symm nfw)]; exact eW1
    generalize (upd H3 pf (.lst (fs ++ [y]))) = H4 at e2 k2 aF2 aY2 ay2 eW2 ⊢
    have kT : Kp [pf, pw] H H4 := (kW.trans (k1.mono (by simp))).trans (k2.mono (by simp))
    walk_at "rd"
    rw [List.reverse_append, List.reverse_singleton, List.singleton_append, Tm.occs_cons] at oc
    rcases ay2.int with ⟨i, rfl, rfl⟩ | ⟨a, n, vs, ts, rfl, rfl, ea, ats⟩
    · walk_at "rd"
      refine iteF ?_
      walk_at "rd"
      refine ⟨Tm.sizes us, by rw [Tm.sizes_append, Tm.sizes_cons, Tm.sizes_nil, Tm.size_var]; omega, fs ++ [.int i], ys, ft ++ [.var i], us, _, rfl, e2, eW2, aF2, aY2, ?_, kT, rfl⟩
      rw [← oc, Tm.occ_var, List.append_assoc]
    · walk_at "rd"
      refine iteT ?_
      walk_at "rd"
      refine ⟨a, .str n, vs, rfl, sqT ea, fun r hr2 => ?_⟩
      walk_at "rd"
      have k5 : Kp [] H4 (upd H4 r (.tup vs.reverse)) := Kp.new hr2
      have e5 := k5 _ _ (by simp) e2
      have eW5 := k5 _ _ (by simp) eW2
      have aF5 := k5.ats (by simp) aF2
      have aY5 := k5.ats (by simp) aY2
      have at5 := k5.ats (by simp) ats
      have er : (upd H4 r (.tup vs.reverse)) r = some (.tup vs.reverse) := upd_same
      generalize (upd H4 r (.tup vs.reverse)) = H5 at k5 e5 eW5 aF5 aY5 at5 er ⊢
      have lv := at5.len
      have lt := Tm.length_le_sizes ts
      have lu := Tm.length_le_sizes us
      have lys := aY5.len
      rw [Tm.size_app] at lenO
      refine d_extT eW5 er (by rw [List.length_reverse]; omega) ?_
      have k6 : Kp [pw] H5 (upd H5 pw (.lst (ys ++ vs.reverse))) := Kp.put (by simp)
      refine ⟨Tm.sizes us + Tm.sizes ts, by rw [Tm.sizes_append, Tm.sizes_cons, Tm.sizes_nil, Tm.size_app]; omega, fs ++ [.ref a], ys ++ vs.reverse, ft ++ [.app n ts], us ++ ts.reverse, _, rfl, ?_, upd_same, k6.ats (no_tup1 eW5) aF5,
        k6.ats (no_tup1 eW5) (aY5.append at5.rev), ?_, (kT.trans (k5.mono (by simp))).trans (k6.mono (by simp)), by rw [Tm.sizes_append, Tm.sizes_reverse]⟩
      · rw [upd_ne nfw]; exact e5
      · rw [← oc, Tm.occ_app, List.reverse_append, List.reverse_reverse, Tm.occs_append]
        simp only [List.append_assoc, List.cons_append, List.nil_append, List.singleton_append]

abbrev s_depth_of : Stmt := top 2
theorem sc_depth_of : FnScope ["term", "part"] ["term"] (defScope s_depth_of) := ⟨rfl, rfl, rfl, by decide +kernel, rfl, by decide +kernel, by decide +kernel⟩
theorem ok_depth_of1 {P : Program} {w : World} {K : PySem.W.Frag} {mg : Str → Option Value} {base : Heap} {k d : Nat} (D : Df K mg "depth_of" s_depth_of ["term"])
    (cR : Cl P w K mg base k "depth_of" ["term"] (spDepthD d)) (mi : mg "int" = none) (ms : mg "isinstance" = none) (mx : mg "max" = none) : Cl P w K mg base (k + 1) "depth_of" ["term"] (spDepthD (d + 1)) := by
  refine D.ok sc_depth_of (fun vs H Q E h => ?_) (fun f cdv A outer s H vs Q E hr h => ?_)
  · obtain ⟨v, tm, rfl, _⟩ := h
    rfl
  obtain ⟨v, tm, rfl, hv, hz, hd, q⟩ := h
  refine ⟨_, pss_cons (ps_if (pt_val (pe_callB call_isi (by rfl) ms b_isinstance (pa_cons (pv 0) (pa_cons (pe_bltn (v := .ty "int") (by rfl) mi b_int rfl) pa_nil)))) (pss_one (ps_ret pe_int)) pss_nil)
    (pss_one (ps_ret (pe_op op_add pe_int (pe_callBK (cr_maxD rfl) (by rfl) mx b_max (pa_cons (pe_lc (own := [("part", 1)]) (g := gName 1) (by rfl) sc_depth_of.nd (pi_tup (pe_slice sl_tup (pv 0) (po_some pe_int) po_none))
        (blkOk_by (own := [("part", 1)]) (N := ["term", "part"]) (sc := defScope s_depth_of) (by decide +kernel)) (fun _ _ _ _ _ => pg_name (i := 1) sc_depth_of.nd rfl (Or.inl rfl)) (fun _ _ _ _ _ => pts_nil)
        (fun _ _ _ _ _ => pe_cl cR hr (Nat.le_refl _) (by rfl) (pa_cons (pv 1) pa_nil))) pa_nil) (pk_cons pe_int pk_nil))))), ?_⟩
  rw [show L2.start ["term", "part"] [v] = [some v, none] from rfl]
  walk_at "rd"
  rcases hv.int with ⟨i, rfl, rfl⟩ | ⟨a, n, vs, ts, rfl, rfl, ea, ats⟩
  · walk_at "rd"
    refine iteT ?_
    walk_at "rd"
    rw [Tm.depth_var] at q
    exact q H (Kp.refl _ _)
  · walk_at "rd"
    refine iteF ?_
    walk_at "rd"
    refine d_slT1 ea (fun r hr2 => ?_)
    rw [Tm.size_app] at hz
    rw [Tm.depth_app] at hd q
    have k1 : Kp [] H (upd H r (.tup vs)) := Kp.new hr2
    have at1 := k1.ats (by simp) ats
    have er : (upd H r (.tup vs)) r = some (.tup vs) := upd_same
    have lv := ats.len
    have lt := Tm.length_le_sizes ts
    generalize (upd H r (.tup vs)) = B at k1 at1 er ⊢
    refine ⟨r, rfl, ⟨vs, sqT er⟩, fun D hD => ?_⟩
    refine lb_call (AtR := At) (ts := ts) (fun t => (t.depth : Int)) (show 1 < 2 by decide) hD er (by omega) lv (fun j v t H2 h1 h2 k2 _ nt => (at1.at' j v t h1 h2).keep (k2.keepT (no_tup0 hD)))
      (fun v t H2 Q2 E2 ht hv2 q2 => ⟨v, t, rfl, hv2, by have := Tm.size_mem ht; omega, by have := Tm.depth_mem ht; omega, q2⟩) (fun H2 k2 e2 => ?_)
    walk_at "rd"
    refine d_maxD (ns := ts.map fun t => (t.depth : Int)) e2 (fun m hm => ?_)
    walk_at "rd"
    rw [depths_max ts m hm]
    exact q H2 (k1.trans (k2.less hD))
theorem ok_depth_of {P : Program} {w : World} {K : PySem.W.Frag} {mg : Str → Option Value} {base : Heap} (D : Df K mg "depth_of" s_depth_of ["term"])
    (mi : mg "int" = none) (ms : mg "isinstance" = none) (mx : mg "max" = none) : ∀ d : Nat, Cl P w K mg base d "depth_of" ["term"] (spDepthD d)
  | 0 => D.none (N := []) fun vs H Q E h => by
    obtain ⟨v, tm, _, _, _, hd, _⟩ := h
    have := tm.depth_pos
    omega
  | d + 1 => ok_depth_of1 D (ok_depth_of D mi ms mx d) mi ms mx

abbrev s_vars : Stmt := top 3
theorem sc_vars : FnScope ["terms", "found", "term", "part"] ["terms"] (defScope s_vars) := ⟨rfl, rfl, rfl, by decide +kernel, rfl, by decide +kernel, by decide +kernel⟩
theorem ok_vars {P : Program} {w : World} {K : PySem.W.Frag} {mg : Str → Option Value} {base : Heap} {k : Nat} (D : Df K mg "variables_of" s_vars ["terms"]) (cO : Cl P w K mg base k "occurrences_in" ["term"] spOcc)
    (mi : mg "int" = none) (mt : mg "tuple" = none) (ms : mg "isinstance" = none) : Cl P w K mg base (k + 1) "variables_of" ["terms"] spVars := by
  refine D.ok sc_vars (fun vs H Q E h => ?_) (fun f cdv A outer s H vs Q E hr h => ?_)
  · obtain ⟨a, xs, ts, rfl, _⟩ := h
    rfl
  obtain ⟨a, xs, ts, rfl, ea, ats, hz, q⟩ := h
  refine ⟨_, pss_cons (ps_set (i := 1) sc_vars.nd rfl (.inl rfl) pe_dnewK)
    (pss_cons (ps_for PassesOwn.never rfl (pi_tup (pv 0)) (pg_name (i := 2) sc_vars.nd rfl (.inl rfl))
      (pss_one (ps_for PassesOwn.never rfl (pi_list (pe_cl cO hr (Nat.le_refl _) (by rfl) (pa_cons (pv 2) pa_nil))) (pg_name (i := 3) sc_vars.nd rfl (.inl rfl))
        (pss_one (ps_if (pt_val (pe_callB call_isi (by rfl) ms b_isinstance (pa_cons (pv 3) (pa_cons (pe_bltn (v := .ty "int") (by rfl) mi b_int rfl) pa_nil))))
          (pss_one (ps_dput hr.u1 (pv 1) (pv 3) pe_bl (by rfl))) pss_nil)))))
    (pss_one (ps_ret (pe_callTy (c_tupDict rfl) (by rfl) mt b_tuple (pa_cons (pv 1) pa_nil))))), ?_⟩
  rw [show L2.start ["terms", "found", "term", "part"] [.ref a] = [some (.ref a), none, none, none] from rfl]
  walk_at "rd"
  refine d_dnew (fun l hl => ?_)
  walk_at "rd"
  have na : a ≠ l := ne_of_none ea hl
  have k1 : Kp [] H (upd H l (.dK [])) := Kp.new hl
  have el : (upd H l (.dK [])) l = some (.dK (dkI [])) := upd_same
  have ea1 := k1 _ _ (by simp) ea
  have at1 := k1.ats (by simp) ats
  generalize (upd H l (.dK [])) = H1 at k1 el ea1 at1 ⊢
  refine ⟨⟨xs, sqT ea1⟩, ?_⟩
  refine fr_tup (xs := xs) (fun i σ H2 => ∃ x y is2, σ = [some (.ref a), some (.ref l), x, y] ∧ Kp [l] H1 H2 ∧ H2 l = some (.dK (dkI is2)) ∧ is2 = adds [] (Tm.intss (ts.take i)))
    ⟨none, none, [], rfl, Kp.refl _ _, el, by rw [List.take_zero, Tm.intss_nil]; rfl⟩ (fun i σ H2 hi h2 => ?_) (fun i x σ H2 hx h2 => ?_) (fun σ H2 h2 => ?_)
  · obtain ⟨_, _, _, _, k2, _⟩ := h2
    exact sqT (k2.one na ea1)
  · obtain ⟨x0, y0, is2, rfl, k2, e2, rfl⟩ := h2
    walk_at "rd"
    obtain ⟨t, et, atm⟩ := at1.get hx
    have mt := List.mem_of_getElem? et
    have at2 := atm.keep (k2.keepT (no_tupD el))
    have ll := len_adds (Tm.intss (ts.take i)) []
    have l3 := Tm.len_intss (ts.take i)
    have l4 := sizes_take et
    have l5 : ([] : List Int).length = 0 := rfl
    refine ⟨x, t, rfl, at2, by have := Tm.size_mem mt; omega, fun H3 p fs k3 hp ep af => ?_⟩
    walk_at "rd"
    have e3 := k3 _ _ (by simp) e2
    have nl : p ≠ l := fun z => by rw [z, e2] at hp; cases hp
    refine ⟨⟨fs, sqL ep⟩, ?_⟩
    refine fr_list (xs := fs) (fun j σ H4 => ∃ y is4 H5, σ = [some (.ref a), some (.ref l), some x, y] ∧ Kp [l] H3 H4 ∧ H4 l = some (.dK (dkI is4)) ∧ is4 = adds (adds [] (Tm.intss (ts.take i))) ((t.occ.take j).filterMap Tm.isV) ∧ H5 = H4)
      ⟨y0, _, H3, rfl, Kp.refl _ _, e3, by rw [List.take_zero]; rfl, rfl⟩ (fun j σ H4 hj h4 => ?_) (fun j z σ H4 hz2 h4 => ?_) (fun σ H4 h4 => ?_)
    · obtain ⟨_, _, _, _, k4, _⟩ := h4
      exact sqL (k4.one nl ep)
    · obtain ⟨y1, is4, _, rfl, k4, e4, rfl, _⟩ := h4
      obtain ⟨u, eu, au⟩ := af.get hz2
      have au2 := au.keep (k4.keepT (no_tupD e3))
      have tk := take_succ_of eu
      have ju : j < t.occ.length := (List.getElem?_eq_some_iff.mp eu).1
      rw [Tm.occ_len] at ju
      rcases au2.int with ⟨n, rfl, rfl⟩ | ⟨b, n, vs, us, rfl, rfl, eb, _⟩
      · walk_at "rd"
        refine iteT ?_
        refine d_dput ?_
        walk_at "rd"
        have lz := len_adds ((t.occ.take j).filterMap Tm.isV) (adds [] (Tm.intss (ts.take i)))
        have lf := List.length_filterMap_le Tm.isV (t.occ.take j)
        rw [List.length_take] at lf
        refine ⟨l, _, rfl, DPut.k (k := .inl n) e4 (smallL (by unfold dkI; rw [List.length_map]; omega)), ?_⟩
        walk_at "rd"
        refine ⟨_, _, _, rfl, k4.trans (Kp.put (by simp)), by rw [upd_same, putK_dkI], ?_, rfl⟩
        rw [tk, List.filterMap_append]
        show _ = adds _ (_ ++ [n])
        rw [adds_snoc]
      · walk_at "rd"
        refine iteF ?_
        walk_at "rd"
        refine ⟨_, _, H4, rfl, k4, e4, ?_, rfl⟩
        rw [tk, List.filterMap_append]
        show _ = adds _ (_ ++ [])
        rw [List.append_nil]
    · obtain ⟨y1, is4, _, rfl, k4, e4, rfl, _⟩ := h4
      rw [af.take_all] at e4
      refine ⟨_, _, _, rfl, (k2.trans (k3.mono (by simp))).trans k4, e4, ?_⟩
      rw [intss_take et, adds_append]
      rfl
  · obtain ⟨x0, y0, is2, rfl, k2, e2, rfl⟩ := h2
    rw [at1.take_all] at e2
    walk_at "rd"
    refine d_tupDict e2 (fun p hp => ?_)
    refine q _ p ((((k1.mono (by simp)).trans k2).less hl).trans (Kp.new hp)) (fresh0 (((k1.mono (by simp)).trans k2).less hl) hp) ?_
    rw [upd_same]
    unfold dkI
    rw [List.map_map]
    rfl

abbrev s_inst : Stmt := top 4
theorem sc_inst : FnScope ["term", "table"] ["term", "table"] (defScope s_inst) := ⟨rfl, rfl, rfl, by decide +kernel, rfl, by decide +kernel, by decide +kernel⟩
theorem ok_inst1 {P : Program} {w : World} {K : PySem.W.Frag} {mg : Str → Option Value} {base : Heap} {k d : Nat} {sp : Sp} {c Pt : Addr} (D : DfT K mg "instance_of" s_inst ["term", "table"] c) (TB : GxR.TabB base mg c Pt) (cI : Cl P w K mg base k "instance_of" ["term", "table"] sp)
    (hsp : ∀ vs H Q E, spInst Pt d vs H Q E → sp vs H Q E) (mi : mg "int" = none) (ms : mg "isinstance" = none) (mt : mg "tuple" = none) : Cl P w K mg base (k + 3) "instance_of" ["term", "table"] (spInst Pt (d + 1)) := by
  refine D.ok sc_inst (fun vs H Q E h => ?_) (fun f A outer s H vs Q E hr h => ?_)
  · obtain ⟨v, l, tm, kvs, θ, rfl, _⟩ := h
    rfl
  obtain ⟨v, l, tm, kvs, θ, rfl, a, hd, hz, el, tb, tg, q⟩ := h
  refine ⟨_, pss_cons (ps_if (pt_val (pe_callB call_isi (by rfl) ms b_isinstance (pa_cons (pv 0) (pa_cons (pe_bltn (v := .ty "int") (by rfl) mi b_int rfl) pa_nil))))
      (pss_one (ps_ret (pe_dget2 hr.u1 (pv 1) (pv 0) (pv 0) ⟨rfl, rfl, rfl, rfl⟩))) pss_nil)
    (pss_one (ps_ret (pe_op op_catT (pe_slice sl_tupA (pv 0) po_none (po_some pe_int))
      (pe_tupGx (x := "part") (fr := ["table"]) (js := [1]) (k := k) (P := Pt) hr TB rfl (gxscope_by (show gxsB _ _ (defScope s_inst) _ = true by decide +kernel)) rfl (pi_tup (pe_slice sl_tup (pv 0) (po_some pe_int) po_none))
        (fun C code A2 sc H0 fp pn hrg => pe_cl cI hrg (Nat.le_refl _) (by rfl) (pa_cons (pv 0) (pa_cons (pv 1) pa_nil))) (by rfl) mt)))), ?_⟩
  rw [show L2.start ["term", "table"] [v, .ref l] = [some v, some (.ref l)] from rfl]
  rcases a.int with ⟨i, rfl, rfl⟩ | ⟨b, n, vs, ts, rfl, rfl, ea, ats⟩
  · walk_at "rd"
    refine iteT ?_
    walk_at "rd"
    have g : DGet H l (V.int i) (valV kvs (.inl i)) := DGet.k (k := .inl i) el
    rw [Tm.sub_var] at q
    refine d_dget2 ?_
    walk_at "rd"
    refine ⟨.inl ⟨_, .inl el⟩, ?_⟩
    walk_at "rd"
    rcases tb i with ⟨h1, h2⟩ | ⟨u, t, h1, h2, h3⟩
    · rw [h1] at g
      rw [h2] at q
      exact ⟨none, g, q H _ (Kp.refl _ _) tg (.var i)⟩
    · rw [h1] at g
      rw [h2] at q
      exact ⟨some u, g, q H _ (Kp.refl _ _) tg h3⟩
  · walk_at "rd"
    refine iteF ?_
    walk_at "rd"
    refine d_sl01 ea (fun p H1 k1 ep => ?_)
    have ea1 := k1 _ _ (by simp) ea
    have at1 := k1.ats (by simp) ats
    have el1 := k1 _ _ (by simp) el
    have tb1 := tb.keep (k1.keepT (by simp))
    have tg1 := tg.keep0 k1
    walk_at "rd"
    refine d_tupGx ?_
    refine d_gx ?_
    walk_at "rd"
    refine d_slT1 ea1 (fun r hr2 => ?_)
    have k2 : Kp [] H1 (upd H1 r (.tup vs)) := Kp.new hr2
    have er : (upd H1 r (.tup vs)) r = some (.tup vs) := upd_same
    have ep2 := k2 _ _ (by simp) ep
    have at2 := k2.ats (by simp) at1
    have el2 := k2 _ _ (by simp) el1
    have tb2 := tb1.keep (k2.keepT (by simp))
    have tg2 := tg1.keep0 k2
    generalize (upd H1 r (.tup vs)) = H2 at k2 er ep2 at2 el2 tb2 tg2 ⊢
    rw [Tm.depth_app] at hd
    rw [Tm.size_app] at hz
    have ll := at2.len
    have ls := Tm.length_le_sizes ts
    refine ⟨r, rfl, ⟨vs, sqT er⟩, tg2, fun H3 tbd => ?_⟩
    have k3 : Kp [Pt] H2 H3 := kp_tabbed tbd
    have nP : ∀ b xs, H2 b = some (.tup xs) → b ≠ Pt := fun b xs e z => no_tupT tg2 Pt (by simp) xs (z ▸ e)
    have nL : l ≠ Pt := fun z => by obtain ⟨ps, e, _⟩ := tg2; rw [← z, el2] at e; cases e
    have er3 := k3.one (nP _ _ er) er
    have at3 := at2.keep (k3.keepT (no_tupT tg2))
    have el3 := k3.one nL el2
    have ep3 := k3.one (nP _ _ ep2) ep2
    have tb3 := tb2.keep (k3.keepT (no_tupT tg2))
    refine gx_tms (fun t => t.sub θ) er3 (by omega) at3 tbd.1 (fun v t H4 Q4 mt av k4 t4 hq => ?_) (fun H4 ws k4 t4 aD => ?_)
    · show tCall sp [] E0 _ [some v, some (.ref l)] H4 Q4
      walk_at "rd"
      have := Tm.size_mem mt
      have := Tm.depth_mem mt
      exact hsp _ _ _ _ ⟨v, l, t, kvs, θ, rfl, av, by omega, by omega, k4.one nL el3, tb3.keep (k4.keepT (no_tupT tbd.1)), t4, hq⟩
    · intro l2 hl2
      have ep4 := k4.one (nP _ _ ep2) ep3
      have k5 : Kp [Pt] H4 (upd H4 l2 (.tup ws)) := Kp.new hl2
      have t5 := t4.keep0 (Kp.new (o := .tup ws) hl2)
      have kk : Kp [Pt] H (upd H4 l2 (.tup ws)) := ((((k1.trans k2).mono (by simp)).trans k3).trans k4).trans k5
      have lw := aD.len
      rw [List.length_map] at lw
      rw [Tm.sub_app, Tm.subs_map] at q
      have kz : Kp [] H4 (upd H4 l2 (.tup ws)) := Kp.new hl2
      refine d_catT (kz _ _ (by simp) ep4) upd_same (by simp) (by show 1 + ws.length ≤ 1000000; omega) (fun hv => ?_) (fun hv r2 hr2 => ?_)
      · subst hv
        refine q _ _ kk t5 (.of (kz _ _ (by simp) ep4) (kz.ats (by simp) aD))
      · have k6 : Kp [] (upd H4 l2 (.tup ws)) (upd (upd H4 l2 (.tup ws)) r2 (.tup ([.str n] ++ ws))) := Kp.new hr2
        exact q _ _ (kk.trans (k6.mono (by simp))) (t5.keep0 k6) (.of (vs := ws) upd_same ((kz.ats (by simp) aD).keep (k6.keepT (by simp))))
theorem ok_inst {P : Program} {w : World} {K : PySem.W.Frag} {mg : Str → Option Value} {base : Heap} {c Pt : Addr} (D : DfT K mg "instance_of" s_inst ["term", "table"] c) (TB : GxR.TabB base mg c Pt) (mi : mg "int" = none) (ms : mg "isinstance" = none) (mt : mg "tuple" = none) :
    ∀ d : Nat, Cl P w K mg base (3 * d + 3) "instance_of" ["term", "table"] (spInst Pt (d + 1))
  | 0 => ok_inst1 (sp := spInst Pt 0) (k := 0) D TB (D.df.none (N := []) fun vs H Q E ⟨_, _, tm, _, _, _, _, h, _⟩ => absurd tm.depth_pos (by omega)) (fun _ _ _ _ h => h) mi ms mt
  | d + 1 => ok_inst1 (k := 3 * d + 3) D TB (ok_inst D TB mi ms mt d) (fun _ _ _ _ h => h) mi ms mt

abbrev s_numbered : Stmt := top 5
abbrev nNum : List Str := ["terms", "table", "number", "variable"]
theorem sc_numbered : FnScope nNum ["terms"] (defScope s_numbered) := ⟨rfl, rfl, rfl, by decide +kernel, rfl, by decide +kernel, by decide +kernel⟩
theorem ok_numbered {P : Program} {w : World} {K : PySem.W.Frag} {mg : Str → Option Value} {base : Heap} {k d : Nat} {c P1 P2 : Addr} (D : DfT K mg "numbered" s_numbered ["terms"] c) (TB : GxR.TabB base mg c P2) (nP : P2 ≠ P1)
    (cV : Cl P w K mg base k "variables_of" ["terms"] spVars) (cI : Cl P w K mg base k "instance_of" ["term", "table"] (spInst P1 d)) (me : mg "enumerate" = none) (mt : mg "tuple" = none) : Cl P w K mg base (k + 3) "numbered" ["terms"] (spNumbered P1 P2 d) := by
  refine D.ok sc_numbered (fun vs H Q E h => ?_) (fun f A outer s H vs Q E hr h => ?_)
  · obtain ⟨a, xs, ts, rfl, _⟩ := h
    rfl
  obtain ⟨a, xs, ts, rfl, ea, ats, hd, hz, g1, g2, q⟩ := h
  refine' ⟨_, pss_cons ?a1 (pss_one ?a2), ?rst⟩
  case a1 =>
    refine' ps_set (i := 1) sc_numbered.nd rfl (.inr rfl) (pe_dc (own := [("number", 2), ("variable", 3)]) (g := gTup K 2 (gCons (gName 2) (gCons (gName 3) gNil))) (by rfl) sc_numbered.nd ?b1
      (blkOk_by (own := [("number", 2), ("variable", 3)]) (N := nNum) (sc := defScope s_numbered) (by decide +kernel)) (fun _ _ _ _ _ => ?b2) (fun _ _ _ _ _ => pts_nil) (fun _ _ _ _ _ => pv 3) (fun _ _ _ _ _ => pv 2))
    case b1 => exact pi_enumT (by rfl) me (pa_cons (pe_cl cV hr (by omega) (by rfl) (pa_cons (pv 0) pa_nil)) pa_nil)
    case b2 => exact pg_tup rfl (pgs_cons (pg_name (i := 2) sc_numbered.nd rfl (.inl rfl)) (pgs_cons (pg_name (i := 3) sc_numbered.nd rfl (.inl rfl)) pgs_nil))
  case a2 => exact ps_ret (pe_tupGx (x := "term") (fr := ["table"]) (js := [1]) (k := k) (P := P2) hr TB rfl (gxscope_by (show gxsB _ _ (defScope s_numbered) _ = true by decide +kernel)) rfl (pi_tup (pv 0))
        (fun C code A2 sc H0 fp pn hrg => pe_cl cI hrg (Nat.le_refl _) (by rfl) (pa_cons (pv 0) (pa_cons (pv 1) pa_nil))) (by rfl) mt)
  case rst =>
  rw [show L2.start nNum [.ref a] = [some (.ref a), none, none, none] from rfl]
  walk_at "rd"
  refine d_dc ?_
  refine d_cons ?_
  walk_at "rd"
  refine ⟨a, xs, ts, rfl, ea, ats, hz, fun H1 vp k1 hvp evp => ?_⟩
  have ea1 := k1 _ _ (by simp) ea
  have at1 := k1.ats (by simp) ats
  have g11 := g1.keep0 k1
  have g21 := g2.keep0 k1
  walk_at "rd"
  refine ⟨vp, _, rfl, sqT evp, fun l hl => ?_⟩
  have lV := len_vrs ts
  have nv : vp ≠ l := ne_of_none evp hl
  have na : a ≠ l := ne_of_none ea1 hl
  refine dc_enumT (us := (vrs ts).map V.int) (fun i H' => ∃ kvs, H' l = some (.dK kvs) ∧ kvs.length ≤ i ∧ TblAt H' kvs (renT (fun k => (k : Int)) ((vrs ts).take i)) ∧ Kp [l] H1 H')
    ⟨[], upd_same, Nat.zero_le _, by rw [List.take_zero, renT_nil]; exact .nil, Kp.new hl⟩ (fun i H' hi h' => ?_) (fun i u H' p hu h' hp => ?_) (fun H' h' => ?_)
  · obtain ⟨kvs, e, _, _, k2⟩ := h'
    exact sqT (k2.one nv evp)
  · obtain ⟨kvs, e, lk, tb, k2⟩ := h'
    obtain ⟨v, rfl, ev⟩ : ∃ v, u = .int v ∧ (vrs ts)[i]? = some v := by
      rw [List.getElem?_map] at hu
      cases z : (vrs ts)[i]? with
      | none => rw [z] at hu; cases hu
      | some t => rw [z] at hu; exact ⟨t, (Option.some.inj hu).symm, rfl⟩
    have hi : i < (vrs ts).length := (List.getElem?_eq_some_iff.mp ev).1
    refine d_gtup2 upd_same ?_
    have kp : Kp [] H' (upd H' p (.tup [.int (i : Nat), .int v])) := Kp.new hp
    have e2 := kp _ _ (by simp) e
    have tb2 := tb.keep (kp.keepT (by simp))
    have k3 := k2.trans (kp.mono (by simp))
    generalize (upd H' p (.tup [.int (i : Nat), .int v])) = H2 at kp e2 tb2 k3 ⊢
    refine ⟨rfl, ?_⟩
    unfold tYes
    simp only [if_true]
    refine d_var rfl (d_var rfl ?_)
    refine ⟨kvs, .inl v, rfl, e2, smallL (by omega), _, upd_same, ?_, ?_, k3.trans (Kp.put (by simp))⟩
    · have := length_putK kvs (.inl v) (V.int (i : Nat)); omega
    · have nd : ((vrs ts).take i ++ [v]).Nodup := by
        rw [← take_succ_of ev]
        exact (vrs_nodup ts).sublist (List.take_sublist _ _)
      have ni : v ∉ (vrs ts).take i := fun z => by
        have := (List.nodup_append.mp nd).2.2 v z v (by simp)
        exact this rfl
      rw [take_succ_of ev, renT_snoc ni, List.length_take, Nat.min_eq_left (by omega)]
      exact (tb2.keep ((Kp.put (l := [l]) (by simp)).keepT (no_tupD e2))).put (.var i)
  · obtain ⟨kvs, e, _, tb, k2⟩ := h'
    rw [List.length_map, List.take_length] at tb
    walk_at "rd"
    have ea2 := k2.one na ea1
    have at2 := at1.keep (k2.keepT fun b hb ys z => by rw [List.mem_singleton.mp hb, hl] at z; cases z)
    have l1 : l ≠ P1 := fun z => by obtain ⟨ps, z2, _⟩ := g11; rw [← z, hl] at z2; cases z2
    have l2 : l ≠ P2 := fun z => by obtain ⟨ps, z2, _⟩ := g21; rw [← z, hl] at z2; cases z2
    have g12 := GxR_one g11 k2 (Ne.symm l1)
    have g22 := GxR_one g21 k2 (Ne.symm l2)
    refine d_tupGx (d_gx ?_)
    walk_at "rd"
    refine ⟨⟨xs, sqT ea2⟩, g22, fun H3 tbd => ?_⟩
    have k3 : Kp [P2] H' H3 := kp_tabbed tbd
    have nT2 : ∀ b xs, H' b = some (.tup xs) → b ≠ P2 := fun b xs e z => no_tupT g22 P2 (by simp) xs (z ▸ e)
    have ea3 := k3.one (nT2 _ _ ea2) ea2
    have at3 := at2.keep (k3.keepT (no_tupT g22))
    have e3 := k3.one l2 e
    have tb3 := tb.keep (k3.keepT (no_tupT g22))
    have g13 := GxR_one g12 k3 (Ne.symm nP)
    have lx := ats.len
    have ls := Tm.length_le_sizes ts
    refine gx_tms2 (fun t => t.sub (renT (fun k => (k : Int)) (vrs ts))) ea3 (by omega) at3 tbd.1 g13 (fun v t H4 Q4 mt av k4 t4 hq => ?_) nP (fun H4 ws k4 t4 t14 aD => ?_)
    · show tCall (spInst P1 d) [] E0 _ [some v, some (.ref l)] H4 Q4
      walk_at "rd"
      have := Tm.size_mem mt
      have kT : KeepT H3 H4 := k4.keepT fun b hb ys => by
        rcases List.mem_cons.mp hb with z | z
        · exact no_tupT tbd.1 b (by simp [z]) ys
        · exact no_tupT g13 b z ys
      exact ⟨v, l, t, kvs, _, rfl, av, hd t mt, by omega, k4 _ _ (by simp [l1, l2]) e3, tb3.keep kT, t4, hq⟩
    · intro r hr2
      have k5 : Kp [] H4 (upd H4 r (.tup ws)) := Kp.new hr2
      refine q _ r ws ?_ (t14.keep0 k5) (t4.keep0 k5) upd_same (k5.ats (by simp) aD)
      have kA : Kp [P1, P2] H H' := ((k1.mono (by simp)).trans k2).less (fresh0 k1 hl) |>.mono (by simp)
      exact ((kA.trans (k3.mono (by simp))).trans (k4.mono (by simp))).trans (k5.mono (by simp))

abbrev s_aor : Stmt := top 21
abbrev nAor : List Str := ["rule", "_", "premises", "conclusion"]
theorem sc_aor : FnScope nAor ["rule"] (defScope s_aor) := ⟨rfl, rfl, rfl, by decide +kernel, rfl, by decide +kernel, by decide +kernel⟩
theorem ok_aor {P : Program} {w : World} {K : PySem.W.Frag} {mg : Str → Option Value} {base : Heap} {k : Nat} (D : Df K mg "atoms_of_rule" s_aor ["rule"]) : Cl P w K mg base (k + 1) "atoms_of_rule" ["rule"] spAor := by
  refine D.ok sc_aor (fun vs H Q E h => ?_) (fun f cdv A outer s H vs Q E hr h => ?_)
  · obtain ⟨p, z, ps, c, rfl, _⟩ := h
    rfl
  obtain ⟨p, z, ps, c, rfl, ⟨r, v0, ws, e1, e2, ac, aw⟩, hl, q⟩ := h
  refine' ⟨_, pss_cons ?a1 (pss_one ?a2), ?rst⟩
  case a1 => exact ps_asg (pv 0) (pg_tup rfl (pgs_cons (pg_name (i := 1) sc_aor.nd rfl (.inl rfl)) (pgs_cons (pg_name (i := 2) sc_aor.nd rfl (.inl rfl)) (pgs_cons (pg_name (i := 3) sc_aor.nd rfl (.inl rfl)) pgs_nil))))
  case a2 => exact ps_ret (pe_op op_catT (pe_tup (pa_cons (pv 3) pa_nil)) (pv 2))
  case rst =>
  rw [show L2.start nAor [.ref p] = [some (.ref p), none, none, none] from rfl]
  walk_at "rd"
  refine d_gtup3 e1 ?_
  walk_at "rd"
  refine ⟨smallN (show 1 ≤ 1000000 by decide), fun l hl => ?_⟩
  have kl : Kp [] H (upd H l (.tup [v0])) := Kp.new hl
  have lw := aw.len
  walk_at "rd"
  refine d_catT upd_same (kl _ _ (by simp) e2) (by simp) (by simp; omega) (fun hz => ?_) (fun hz m hm => ?_)
  · subst hz
    have hp : ps = [] := List.length_eq_zero_iff.mp lw.symm
    subst hp
    exact q _ l [v0] kl upd_same (.one (ac.nil kl))
  · have km := Kp.new (l := []) (o := .tup ([v0] ++ ws)) hm
    exact q _ m ([v0] ++ ws) (kl.trans km) upd_same ((Ats.cons (ac.nil kl) (kl.ats (by simp) aw)).keep (km.keepT (by simp)))

abbrev s_vor : Stmt := top 22
theorem sc_vor : FnScope ["rule"] ["rule"] (defScope s_vor) := ⟨rfl, rfl, rfl, by decide +kernel, rfl, by decide +kernel, by decide +kernel⟩
theorem ok_vor {P : Program} {w : World} {K : PySem.W.Frag} {mg : Str → Option Value} {base : Heap} {k : Nat} (D : Df K mg "variables_of_rule" s_vor ["rule"]) (cA : Cl P w K mg base k "atoms_of_rule" ["rule"] spAor) (cV : Cl P w K mg base k "variables_of" ["terms"] spVars) : Cl P w K mg base (k + 1) "variables_of_rule" ["rule"] spVor := by
  refine D.ok sc_vor (fun vs H Q E h => ?_) (fun f cdv A outer s H vs Q E hr h => ?_)
  · obtain ⟨p, z, ps, c, rfl, _⟩ := h
    rfl
  obtain ⟨p, z, ps, c, rfl, R, hl, hz, q⟩ := h
  refine' ⟨_, pss_one (ps_ret (pe_cl cV hr (Nat.le_refl _) (by rfl) (pa_cons (pe_cl cA hr (Nat.le_refl _) (by rfl) (pa_cons (pv 0) pa_nil)) pa_nil))), ?rst⟩
  case rst =>
  rw [show L2.start ["rule"] [.ref p] = [some (.ref p)] from rfl]
  walk_at "rd"
  refine ⟨p, z, ps, c, rfl, R, hl, fun H1 b ys k1 e1 a1 => ?_⟩
  walk_at "rd"
  refine ⟨b, ys, c :: ps, rfl, e1, a1, hz, fun H2 p2 k2 _ e2 => ?_⟩
  exact q H2 p2 (k1.trans k2) e2

abbrev s_is_name : Stmt := top 13
abbrev n_is_name : List Str := ["text"]
theorem sc_is_name : FnScope n_is_name ["text"] (defScope s_is_name) := ⟨rfl, rfl, rfl, by decide +kernel, rfl, by decide +kernel, by decide +kernel⟩
theorem ok_isname {P : Program} {w : World} {K : PySem.W.Frag} {mg : Str → Option Value} {base : Heap} {k : Nat} {c P0 : Addr} (D : DfT K mg "is_name" s_is_name ["text"] c) (TB : GxR.TabB base mg c P0) (m_len : mg "len" = none) (m_all : mg "all" = none) (g_MOST_SIGNS : Glo mg "MOST_SIGNS" (.int 16)) (g_SMALL_LETTERS : Glo mg "SMALL_LETTERS" (.str "abcdefghijklmnopqrstuvwxyz"))
    (g_NAME_SIGNS : Glo mg "NAME_SIGNS" (.str "abcdefghijklmnopqrstuvwxyzABCDEFGHIJKLMNOPQRSTUVWXYZ0123456789")) : Cl P w K mg base (k + 3) "is_name" ["text"] (spIsName P0) := by
  refine D.ok sc_is_name (fun vs H Q E h => ?_) (fun f A outer s H vs Q E hr h => ?_)
  · obtain ⟨z, rfl, _⟩ := h
    rfl
  obtain ⟨z, rfl, hz, g, q⟩ := h
  refine' ⟨_, pss_cons ?a1 (pss_one ?a2), ?rst⟩
  case a1 => exact ps_if (pt_not (pt_chain op_le op_le pe_int (pe_callB call_len_str (by rfl) m_len b_len (pa_cons (pv 0) pa_nil)) (pe_gl (by rfl) g_MOST_SIGNS))) (pss_one (ps_ret pe_bl)) pss_nil
  case a2 => exact ps_ret (pe_and (pe_cmpR op_inS (pe_ix ix_str (pv 0) pe_int (fun _ _ => rfl)) (pe_gl (by rfl) g_SMALL_LETTERS) (by rfl)) (pe_one (pe_allGa (x := "sign") (fr := []) (js := []) (k := k) (P := P0) hr TB rfl (gxscope_by (show gxsB _ _ (defScope s_is_name) _ = true by decide +kernel)) rfl (pi_str (pv 0)) (fun C code A2 sc H0 fp pn hrg => (pe_cmpR op_inS (pv 0) (pe_gl (by rfl) g_NAME_SIGNS) (by rfl))) (by rfl) m_all)))
  case rst =>
  rw [show L2.start n_is_name [.str z] = [some (.str z)] from rfl]
  have no : ¬ IsName z → Q (.bl false) H := fun n => by have := q H (Kp.refl _ _) g; rw [decide_eq_false n] at this; exact this
  walk_at "rd"
  refine d_chain ?_
  walk_at "rd"
  refine ⟨by rw [str_len]; exact smallN (show z.cps.toList.length ≤ 1000000 by omega), ?_⟩
  rw [str_len]
  walk_at "rd"
  refine ite_dc (fun c1 => ?_) (fun c1 => ?_)
  · walk_at "rd"
    refine ite_ndc (fun c2 => ?_) (fun c2 => ?_)
    · walk_at "rd"
      exact no fun n => c2 (by have := n.2.1; omega)
    · walk_at "rd"
      obtain ⟨x, l, hl⟩ : ∃ x l, z.cps.toList = x :: l := by
        cases e : z.cps.toList with
        | nil => rw [e] at c1; simp at c1
        | cons x l => exact ⟨x, l, rfl⟩
      refine d_ixS (z := z) (c := x) (by omega) (atI_of (by decide) (by rw [hl]; rfl)) ?_
      walk_at "rd"
      refine d_inS ?_
      refine ⟨_, rfl, ?_⟩
      refine ite_dc (fun c3 => ?_) (fun c3 => ?_)
      · have c3 := mem_small.mp c3
        refine d_allGa (d_ga (d_str ?_))
        walk_at "rd"
        refine ⟨g, fun H2 tbd => ?_⟩
        have k2 : Kp [P0] H H2 := kp_tabbed tbd
        refine ga_str (fun i H' => Kp [] H2 H' ∧ ∀ c ∈ z.cps.toList.take i, signC c) ⟨Kp.refl _ _, fun c h => by simp at h⟩ (fun i c H' hc h' => ?_) (fun H' h' => ?_)
        · obtain ⟨k3, m3⟩ := h'
          show tOp rInS _ _ [some (.str ⟨#[c]⟩)] H' _
          walk_at "rd"
          refine d_inS ⟨_, rfl, fun e => ⟨k3, fun y hy => ?_⟩, fun e => ?_⟩
          · rw [take_succ_of hc] at hy
            rcases List.mem_append.mp hy with hy | hy
            · exact m3 y hy
            · rw [List.mem_singleton.mp hy]; exact mem_sign.mp (of_decide_eq_true e)
          · have nq := q H' (k2.trans (k3.mono (by simp))) (tbd.1.keep0 k3)
            rw [decide_eq_false (fun n => e (decide_eq_true (mem_sign.mpr (n.2.2.2 c (List.mem_of_getElem? hc)))))] at nq
            exact nq
        · obtain ⟨k3, m3⟩ := h'
          rw [List.take_length] at m3
          have nq := q H' (k2.trans (k3.mono (by simp))) (tbd.1.keep0 k3)
          have yes : IsName z := ⟨by omega, by omega, fun y hy => by rw [hl] at hy; cases hy; exact c3, m3⟩
          rw [decide_eq_true yes] at nq
          exact nq
      · exact no fun n => c3 (mem_small.mpr (n.2.2.1 x (by rw [hl]; rfl)))
  · walk_at "rd"
    refine iteT ?_
    walk_at "rd"
    exact no fun n => c1 (by have := n.1; omega)

abbrev s_is_equation : Stmt := top 14
abbrev n_is_equation : List Str := ["atom"]
theorem sc_is_equation : FnScope n_is_equation ["atom"] (defScope s_is_equation) := ⟨rfl, rfl, rfl, by decide +kernel, rfl, by decide +kernel, by decide +kernel⟩
theorem ok_iseq {P : Program} {w : World} {K : PySem.W.Frag} {mg : Str → Option Value} {base : Heap} {k : Nat} (D : Df K mg "is_equation" s_is_equation ["atom"]) : Cl P w K mg base (k + 1) "is_equation" ["atom"] spIsEq := by
  refine D.ok sc_is_equation (fun vs H Q E h => ?_) (fun f cdv A outer s H vs Q E hr h => ?_)
  · obtain ⟨v, n, ts, rfl, _⟩ := h
    rfl
  obtain ⟨v, n, ts, rfl, a, q⟩ := h
  obtain ⟨b, _, _, vs, rfl, ec, e, _⟩ := a.isApp ⟨_, _, rfl⟩
  cases ec
  refine' ⟨_, pss_one ?a1, ?rst⟩
  case a1 => exact ps_ret (pe_cmpR op_eq (pe_ix ix_tup (pv 0) pe_int (fun _ _ => rfl)) pe_str (nomark _))
  case rst =>
  rw [show L2.start n_is_equation [.ref b] = [some (.ref b)] from rfl]
  walk_at "rd"
  refine d_ixT0 e ?_
  walk_at "rd"
  have e2 : decide (V.str n = V.str "=") = decide (n = "=") := by rw [decide_eq_decide]; exact ⟨fun h => V.str.inj h, fun h => by rw [h]⟩
  rw [e2]
  exact q

abbrev s_is_small : Stmt := top 15
abbrev n_is_small : List Str := ["size", "depth"]
theorem sc_is_small : FnScope n_is_small ["size", "depth"] (defScope s_is_small) := ⟨rfl, rfl, rfl, by decide +kernel, rfl, by decide +kernel, by decide +kernel⟩
theorem ok_issmall {P : Program} {w : World} {K : PySem.W.Frag} {mg : Str → Option Value} {base : Heap} {k : Nat} (D : Df K mg "is_small" s_is_small ["size", "depth"]) (g_MOST_SIZE : Glo mg "MOST_SIZE" (.int 60)) (g_MOST_DEPTH : Glo mg "MOST_DEPTH" (.int 12)) : Cl P w K mg base (k + 1) "is_small" ["size", "depth"] spIsSmall := by
  refine D.ok sc_is_small (fun vs H Q E h => ?_) (fun f cdv A outer s H vs Q E hr h => ?_)
  · obtain ⟨a, b, rfl, _⟩ := h
    rfl
  obtain ⟨a, b, rfl, q⟩ := h
  refine' ⟨_, pss_one ?a1, ?rst⟩
  case a1 => exact ps_ret (pe_and (pe_cmpR op_le (pv 0) (pe_gl (by rfl) g_MOST_SIZE) (nomark _)) (pe_one (pe_cmpR op_le (pv 1) (pe_gl (by rfl) g_MOST_DEPTH) (nomark _))))
  case rst =>
  rw [show L2.start n_is_small [.int a, .int b] = [some (.int a), some (.int b)] from rfl]
  walk_at "rd"
  refine ite_dc (fun c1 => ?_) (fun c1 => ?_)
  · walk_at "rd"
    rw [show decide ((b : Int) ≤ 12) = decide (a ≤ 60 ∧ b ≤ 12) from by rw [decide_eq_decide]; omega]
    exact q
  · rw [decide_eq_false (by omega)] at q
    exact q

abbrev s_is_valid_atom : Stmt := top 16
abbrev n_is_valid_atom : List Str := ["atom", "inner", "applications", "part", "names"]
theorem sc_is_valid_atom : FnScope n_is_valid_atom ["atom"] (defScope s_is_valid_atom) := ⟨rfl, rfl, rfl, by decide +kernel, rfl, by decide +kernel, by decide +kernel⟩
theorem ok_vatom {P : Program} {w : World} {K : PySem.W.Frag} {mg : Str → Option Value} {base : Heap} {k : Nat} {c Pn P0 : Addr} (D : DfT K mg "is_valid_atom" s_is_valid_atom ["atom"] c) (TB : GxR.TabB base mg c P0) (nP : Pn ≠ P0) (c_occurrences_in : Cl P w K mg base (k + 2) "occurrences_in" ["term"] spOcc) (c_is_equation : Cl P w K mg base (k + 2) "is_equation" ["atom"] spIsEq) (c_is_name : Cl P w K mg base k "is_name" ["text"] (spIsName Pn))
    (c_is_small : Cl P w K mg base (k + 2) "is_small" ["size", "depth"] spIsSmall) (c_depth_of : Cl P w K mg base (k + 2) "depth_of" ["term"] (spDepthD 60)) (m_int : mg "int" = none) (m_isinstance : mg "isinstance" = none) (m_len : mg "len" = none) (m_all : mg "all" = none) (m_max : mg "max" = none)
    (g_MOST_ARGUMENTS : Glo mg "MOST_ARGUMENTS" (.int 8)) : Cl P w K mg base (k + 3) "is_valid_atom" ["atom"] (spVAtom Pn P0) := by
  refine D.ok sc_is_valid_atom (fun vs H Q E h => ?_) (fun f A outer s H vs Q E hr h => ?_)
  · obtain ⟨v, n, ts, rfl, _⟩ := h
    rfl
  obtain ⟨v, n, ts, rfl, a, hn, hz, hd, gn, g0, q⟩ := h
  refine' ⟨_, pss_cons ?a1 (pss_cons ?a2 (pss_cons ?a3 (C8.pss_cut ?a4 (pss_cons ?a5 (pss_cons ?a6 (pss_one ?a7)))))), ?rst⟩
  case a1 => exact ps_set (i := 1) sc_is_valid_atom.nd rfl (.inl rfl) (pe_cl c_occurrences_in hr (Nat.le_refl _) (by rfl) (pa_cons (pv 0) pa_nil))
  case a2 => exact ps_setLc (i := 2) (own := [("part", 3)]) (g := gName 3) (by rfl) sc_is_valid_atom.nd rfl rfl (sw_true rfl rfl rfl (by decide +kernel)) (pi_list (pv 1)) (blkOk_by (own := [("part", 3)]) (N := n_is_valid_atom) (sc := defScope s_is_valid_atom) (by decide +kernel)) (fun _ _ _ _ _ => pg_name (i := 3) sc_is_valid_atom.nd rfl (Or.inl rfl)) (fun _ _ _ _ _ => (pts_one (pt_not (pt_val (pe_callB (call_isiK2 (K := K) rfl) (by rfl) m_isinstance b_isinstance (pa_cons (pv 3) (pa_cons (pe_bltn (v := .ty "int") (by rfl) m_int b_int rfl) pa_nil))))))) (fun _ _ _ _ _ => (pv 3))
  case a3 => exact ps_setLc (i := 4) (own := [("part", 3)]) (g := gName 3) (by rfl) sc_is_valid_atom.nd rfl rfl (sw_true rfl rfl rfl (by decide +kernel)) (pi_list (pv 2)) (blkOk_by (own := [("part", 3)]) (N := n_is_valid_atom) (sc := defScope s_is_valid_atom) (by decide +kernel)) (fun _ _ _ _ _ => pg_name (i := 3) sc_is_valid_atom.nd rfl (Or.inl rfl)) (fun _ _ _ _ _ => pts_nil) (fun _ _ _ _ _ => (pe_ix (ix_tupK (K := K) rfl) (pv 3) pe_int (fun _ _ => rfl)))
  case a4 => exact ps_if (PW.pt (pw_and (pt_val (pe_cl c_is_equation hr (Nat.le_refl _) (by rfl) (pa_cons (pv 0) pa_nil))) (pw_and1 (pt_cmpR op_eq (pe_callB c_len (by rfl) m_len b_len (pa_cons (pv 0) pa_nil)) pe_int (nomark _))))) (pss_one (ps_set (i := 4) sc_is_valid_atom.nd rfl (.inl rfl) (pe_slice sl_list (pv 4) (po_some pe_int) po_none))) pss_nil
  case a5 => exact ps_if (pt_not (pt_val (pe_allGa (x := "name") (fr := []) (js := []) (k := k) (P := P0) hr TB rfl (gxscope_by (show gxsB _ _ (defScope s_is_valid_atom) _ = true by decide +kernel)) rfl (pi_list (pv 4)) (fun C code A2 sc H0 fp pn hrg => (pe_cl c_is_name hrg (Nat.le_refl _) (by rfl) (pa_cons (pv 0) pa_nil))) (by rfl) m_all))) (pss_one (ps_ret pe_bl)) pss_nil
  case a6 => exact ps_if (pt_cmpR op_gt (pe_callB (c_maxL rfl) (by rfl) m_max b_max (pa_cons (pe_lc (own := [("part", 3)]) (g := gName 3) (by rfl) sc_is_valid_atom.nd (pi_list (pv 2)) (blkOk_by (own := [("part", 3)]) (N := n_is_valid_atom) (sc := defScope s_is_valid_atom) (by decide +kernel)) (fun _ _ _ _ _ => pg_name (i := 3) sc_is_valid_atom.nd rfl (Or.inl rfl)) (fun _ _ _ _ _ => pts_nil) (fun _ _ _ _ _ => (pe_callB (c_lenK (K := K) rfl) (by rfl) m_len b_len (pa_cons (pv 3) pa_nil)))) pa_nil)) (pe_op op_add pe_int (pe_gl (by rfl) g_MOST_ARGUMENTS)) (nomark _)) (pss_one (ps_ret pe_bl)) pss_nil
  case a7 => exact ps_ret (pe_cl c_is_small hr (Nat.le_refl _) (by rfl) (pa_cons (pe_callB c_len (by rfl) m_len b_len (pa_cons (pv 1) pa_nil)) (pa_cons (pe_cl c_depth_of hr (Nat.le_refl _) (by rfl) (pa_cons (pv 0) pa_nil)) pa_nil)))
  case rst =>
  rw [show L2.start n_is_valid_atom [v] = [some v, none, none, none, none] from rfl]
  have nice := Tm.occ_nice _ hn
  have lo := Tm.occ_len (.app n ts)
  walk_at "rd"
  refine ⟨v, _, rfl, a, by omega, fun H1 p1 fs k1 hp1 e1 a1 => ?_⟩
  have l1 := a1.len
  have av1 := a.nil k1
  walk_at "rd"
  refine ⟨⟨fs, sqL e1⟩, fun D hD => ?_⟩
  have n1 : p1 ≠ D := ne_of_none e1 hD
  refine lb_listT (xs := fs) (fun i H' => Kp [D] H1 H' ∧ ∃ us, H' D = some (.lst us) ∧ Ats H' us (((Tm.app n ts).occ.take i).filter Tm.isA)) ⟨Kp.new hD, [], upd_same, by rw [List.take_zero]; exact .nil⟩ (fun i H' _ h' => sqL (h'.1.one n1 e1)) (fun i x H' hx h' => ?_) (fun H2 h2 => ?_)
  · obtain ⟨kD, us, eD, aD⟩ := h'
    obtain ⟨u, eu, au⟩ := a1.get hx
    have au2 := au.keep (kD.keepT (no_tup0 hD))
    have lD := aD.len
    have lf := List.length_filter_le Tm.isA ((Tm.app n ts).occ.take i)
    rw [List.length_take] at lf
    refine ⟨rfl, ?_⟩
    rw [take_succ_filter eu]
    rcases au2.int with ⟨j, rfl, rfl⟩ | ⟨b, m, vs, us2, rfl, rfl, eb, _⟩
    · walk_at "rd"
      refine iteF ?_
      rw [if_neg (by exact Bool.false_ne_true), List.append_nil]
      exact ⟨kD, us, eD, aD⟩
    · walk_at "rd"
      refine iteT ?_
      rw [if_pos (show Tm.isA (.app m us2) = true from rfl)]
      have kd : Kp [D] H' (upd H' D (.lst (us ++ [.ref b]))) := Kp.put (by simp)
      exact d_var rfl ⟨us, eD, smallL (by omega), kD.trans kd, _, upd_same, (aD.append (.one au2)).keep (kd.keepT (no_tup1 eD))⟩
  obtain ⟨kD, us, eD, aD⟩ := h2
  rw [a1.take_all] at aD
  have aD : Ats H2 us (Tm.app n ts).apps := aD
  have k2 : Kp [] H1 H2 := kD.less hD
  have e12 := kD.one n1 e1
  have av2 := av1.nil k2
  have lus := aD.len
  have la : (Tm.app n ts).apps.length ≤ (Tm.app n ts).size := by rw [← lo]; exact List.length_filter_le _ _
  obtain ⟨b, _, _, vs, rfl, ec, eb, atsb⟩ := av2.isApp ⟨_, _, rfl⟩
  cases ec
  have lvs := atsb.len
  have g2n := (gn.keep0 k1).keep0 k2
  have g20 := (g0.keep0 k1).keep0 k2
  have k02 := k1.trans k2
  clear kD k1 k2 a1 e1 a av1
  have apN : ∀ u ∈ (Tm.app n ts).apps, TxtOk u.nm := fun u hu => by
    obtain ⟨h1, m, us2, rfl⟩ := Tm.apps_mem hu
    exact ((Tm.nice_app _ _).mp (nice _ h1).1).1
  walk_at "rd"
  refine ⟨⟨us, sqL eD⟩, fun D2 hD2 => ?_⟩
  have n2 : D ≠ D2 := ne_of_none eD hD2
  refine lb_list (xs := us) (fun i H' => Kp [D2] H2 H' ∧ H' D2 = some (.lst (((Tm.app n ts).apps.take i).map fun u => V.str u.nm))) ⟨Kp.new hD2, by rw [List.take_zero]; exact upd_same⟩ (fun i H' _ h' => sqL (h'.1.one n2 eD)) (fun i x H' hx h' => ?_) (fun H3 h3 => ?_)
  · obtain ⟨kD, eD2⟩ := h'
    obtain ⟨u, eu, au⟩ := aD.get hx
    obtain ⟨h1, hu⟩ := Tm.apps_mem (List.mem_of_getElem? eu)
    obtain ⟨b2, m, us2, vs2, rfl, rfl, eb2, _⟩ := (au.keep (kD.keepT (no_tup0 hD2))).isApp hu
    refine ⟨rfl, ?_⟩
    walk_at "rd"
    refine d_ixT0 eb2 ?_
    refine ⟨_, eD2, smallL (by rw [List.length_map, List.length_take]; omega), kD.trans (Kp.put (by simp)), ?_⟩
    rw [upd_same, take_succ_of eu, List.map_append]
    rfl
  obtain ⟨kD, eD2⟩ := h3
  rw [aD.take_all] at eD2
  have k3 : Kp [] H2 H3 := kD.less hD2
  have eD3 := kD.one n2 eD
  have eb3 := k3 _ _ (by simp) eb
  have av3 := av2.nil k3
  have aD3 := k3.ats (by simp) aD
  have e13 := k3 _ _ (by simp) e12
  have g3n := g2n.keep0 k3
  have g30 := g20.keep0 k3
  have k03 := k02.trans k3
  clear kD k3 eb av2 aD e12 g2n g20 k02 gn g0 atsb
  let apl : List Tm := if n = "=" ∧ ts.length = 2 then (Tm.app n ts).apps.drop 1 else (Tm.app n ts).apps
  walk_at "rd"
  refine d_cut (fun σ H' => ∃ x3 D4 z0, σ = [some (.ref b), some (.ref p1), some (.ref D), x3, some (.ref D4)] ∧ z0 = 0 ∧ Kp [] H3 H' ∧ H' D4 = some (.lst (apl.map fun u => V.str u.nm))) ?_ (fun σ H4 h4 => ?_)
  · walk_at "rd"
    refine ⟨_, n, ts, rfl, av3, ?_⟩
    walk_at "rd"
    refine ite_dc (fun c => ?_) (fun c => ?_)
    · walk_at "rd"
      rw [List.length_cons]
      refine ite_dc (fun c2 => ?_) (fun c2 => ?_)
      · have c2 := V.int.inj c2
        have l2 : ts.length = 2 := by omega
        walk_at "rd"
        refine d_slL eD2 (fun r hr5 => ?_)
        rw [cutV_drop _ _ (by decide)]
        walk_at "rd"
        refine ⟨_, _, 0, rfl, rfl, Kp.new hr5, ?_⟩
        rw [upd_same]
        show _ = some (HO.lst (List.map _ (if n = "=" ∧ ts.length = 2 then _ else _)))
        rw [if_pos ⟨c, l2⟩, List.map_drop]
        try rfl
      · walk_at "rd"
        refine ⟨_, _, 0, rfl, rfl, Kp.refl _ _, ?_⟩
        rw [eD2]
        show _ = some (HO.lst (List.map _ (if n = "=" ∧ ts.length = 2 then _ else _)))
        rw [if_neg (fun z => c2 (by rw [show vs.length = 2 by omega]; rfl))]
    · refine iteF ?_
      walk_at "rd"
      refine ⟨_, _, 0, rfl, rfl, Kp.refl _ _, ?_⟩
      rw [eD2]
      show _ = some (HO.lst (List.map _ (if n = "=" ∧ ts.length = 2 then _ else _)))
      rw [if_neg (fun z => c z.1)]
  obtain ⟨x3, D4, _, rfl, _, k4, eD4⟩ := h4
  have eD' := k4 _ _ (by simp) eD3
  have av4 := av3.nil k4
  have aD4 := k4.ats (by simp) aD3
  have e14 := k4 _ _ (by simp) e13
  have g4n := g3n.keep0 k4
  have g40 := g30.keep0 k4
  have k04 := k03.trans k4
  clear eD2 eD3 av3 aD3 e13 g3n g30 k03 k4
  have sub : ∀ u ∈ apl, u ∈ (Tm.app n ts).apps := fun u hu => by
    have hu : u ∈ (if n = "=" ∧ ts.length = 2 then (Tm.app n ts).apps.drop 1 else (Tm.app n ts).apps) := hu
    split at hu
    · exact List.mem_of_mem_drop hu
    · exact hu
  walk_at "rd"
  refine d_allGa (d_ga ?_)
  walk_at "rd"
  refine ⟨⟨_, sqL eD4⟩, g40, fun H5 tbd => ?_⟩
  have k5 : Kp [P0] H4 H5 := kp_tabbed tbd
  have nl : ∀ {H : Hp} {a : Addr} {xs : List V}, GxR.TabG H P0 → H a = some (.lst xs) → a ≠ P0 := fun g e => tab_ne g e fun ps z => by cases z
  have nln : ∀ {H : Hp} {a : Addr} {xs : List V}, GxR.TabG H Pn → H a = some (.lst xs) → a ≠ Pn := fun g e => tab_ne g e fun ps z => by cases z
  have g5n := GxR_one g4n k5 nP
  have eD5 := k5.one (nl g40 eD4) eD4
  refine ga_list (xs := apl.map fun u => V.str u.nm) (fun i H' => Kp [Pn] H5 H' ∧ GxR.TabG H' Pn ∧ ∀ u ∈ apl.take i, IsName u.nm) ⟨Kp.refl _ _, g5n, fun u hu => by simp at hu⟩ (fun i H' _ h' => sqL (h'.1.one (nln g5n eD5) eD5)) (fun i x H' hx h' => ?_) (fun H6 h6 => ?_)
  · obtain ⟨k6, g6, m6⟩ := h'
    rw [List.getElem?_map] at hx
    obtain ⟨u, eu, rfl⟩ : ∃ u, apl[i]? = some u ∧ x = .str u.nm := by
      cases z : apl[i]? with
      | none => rw [z] at hx; cases hx
      | some u => rw [z] at hx; cases hx; exact ⟨u, rfl, rfl⟩
    have mu := List.mem_of_getElem? eu
    show tCall (spIsName Pn) [] E0 _ [some (.str u.nm)] H' _
    walk_at "rd"
    refine ⟨u.nm, rfl, by have := (apN u (sub u mu)).1; omega, g6, fun H7 k7 g7 => ?_⟩
    refine ⟨_, rfl, fun e => ⟨k6.trans k7, g7, fun w hw => ?_⟩, fun e => ?_⟩
    · rw [take_succ_of eu] at hw
      rcases List.mem_append.mp hw with hw | hw
      · exact m6 w hw
      · rw [List.mem_singleton.mp hw]; exact of_decide_eq_true e
    · walk_at "rd"
      refine iteT ?_
      walk_at "rd"
      have k67 := k6.trans k7
      have nq := q H7 ((k04.mono (by simp)).trans ((k5.mono (by simp)).trans (k67.mono (by simp)))) g7 (GxR_one tbd.1 k67 (Ne.symm nP))
      rw [decide_eq_false (fun z : VAtom (.app n ts) => e (decide_eq_true (z.1 u mu)))] at nq
      exact nq
  obtain ⟨k6, g6, m6⟩ := h6
  rw [List.length_map, List.take_length] at m6
  have g60 := GxR_one tbd.1 k6 (Ne.symm nP)
  have nD : D ≠ P0 := nl g40 eD'
  have nDn : D ≠ Pn := nln g4n eD'
  have n1' : p1 ≠ P0 := nl g40 e14
  have n1n : p1 ≠ Pn := nln g4n e14
  have eD6 := k6.one nDn (k5.one nD eD')
  have e16 := k6.one n1n (k5.one n1' e14)
  have kT : KeepT H4 H6 := (k5.keepT (no_tupT g40)).trans (k6.keepT (no_tupT g5n))
  have aD6 := aD4.keep kT
  have av6 := av4.keep kT
  have k06 : Kp [Pn, P0] H H6 := (k04.mono (by simp)).trans ((k5.mono (by simp)).trans (k6.mono (by simp)))
  clear eD' av4 aD4 e14 g4n g40 k04 k5 k6 tbd g5n eD5 eD4
  walk_at "rd"
  refine iteF ?_
  walk_at "rd"
  refine ⟨⟨us, sqL eD6⟩, fun D7 hD7 => ?_⟩
  have n7 : D ≠ D7 := ne_of_none eD6 hD7
  refine lb_list (xs := us) (fun i H' => Kp [D7] H6 H' ∧ H' D7 = some (.lst ((((Tm.app n ts).apps.take i).map fun u => (1 + u.args.length : Int)).map V.int))) ⟨Kp.new hD7, by rw [List.take_zero]; exact upd_same⟩ (fun i H' _ h' => sqL (h'.1.one n7 eD6)) (fun i x H' hx h' => ?_) (fun H8 h8 => ?_)
  · obtain ⟨kD, eD2⟩ := h'
    obtain ⟨u, eu, au⟩ := aD6.get hx
    obtain ⟨h1, hu⟩ := Tm.apps_mem (List.mem_of_getElem? eu)
    obtain ⟨b2, m, us2, vs2, rfl, rfl, eb2, at2⟩ := (au.keep (kD.keepT (no_tup0 hD7))).isApp hu
    have l2 := at2.len
    refine ⟨rfl, ?_⟩
    walk_at "rd"
    refine ⟨_, eD2, smallL (by rw [List.length_map, List.length_map, List.length_take]; omega), kD.trans (Kp.put (by simp)), ?_⟩
    rw [upd_same, take_succ_of eu, List.map_append, List.map_append]
    simp only [List.map_cons, List.map_nil, List.length_cons, l2]
    rw [show (((us2.length + 1 : Nat) : Int)) = 1 + ((Tm.app m us2).args.length : Int) from by show _ = 1 + (us2.length : Int); omega]
  obtain ⟨kD, eD8⟩ := h8
  rw [aD6.take_all] at eD8
  have k8 : Kp [] H6 H8 := kD.less hD7
  have apos : 0 < (Tm.app n ts).apps.length := by rw [Tm.apps_app]; exact Nat.succ_pos _
  walk_at "rd"
  refine d_maxL eD8 (by rw [List.length_map]; exact apos) (fun m hm1 hm2 => ?_)
  walk_at "rd"
  have k08 := k06.trans (k8.mono (by simp))
  have g8n := g6.keep0 k8
  have g80 := g60.keep0 k8
  refine ite_dc (fun c => ?_) (fun c => ?_)
  · walk_at "rd"
    obtain ⟨u, hu, rfl⟩ := List.mem_map.mp hm1
    have nq := q H8 k08 g8n g80
    rw [decide_eq_false (fun z : VAtom (.app n ts) => by have := z.2.1 u hu; omega)] at nq
    exact nq
  · have c' : ∀ u ∈ (Tm.app n ts).apps, u.args.length ≤ 8 := fun u hu => by
      have := hm2 _ (List.mem_map.mpr ⟨u, hu, rfl⟩)
      omega
    have e18 := k8 _ _ (by simp) e16
    walk_at "rd"
    refine ⟨_, .app n ts, rfl, av6.nil k8, by omega, hd, fun H9 k9 => ?_⟩
    walk_at "rd"
    have nq := q H9 (k08.trans (k9.mono (by simp))) (g8n.keep0 k9) (g80.keep0 k9)
    refine ⟨fs.length, (Tm.app n ts).depth, rfl, ?_⟩
    have e : decide (fs.length ≤ 60 ∧ (Tm.app n ts).depth ≤ 12) = decide (VAtom (.app n ts)) := by
      rw [decide_eq_decide, l1, lo]
      exact ⟨fun h => ⟨m6, c', h.1, h.2⟩, fun h => ⟨h.2.2.1, h.2.2.2⟩⟩
    rw [e]
    exact nq

abbrev s_numbered_rule : Stmt := top 24
abbrev n_numbered_rule : List Str := ["rule", "atoms"]
theorem sc_numbered_rule : FnScope n_numbered_rule ["rule"] (defScope s_numbered_rule) := ⟨rfl, rfl, rfl, by decide +kernel, rfl, by decide +kernel, by decide +kernel⟩
theorem ok_numrule {P : Program} {w : World} {K : PySem.W.Frag} {mg : Str → Option Value} {base : Heap} {k : Nat} {d : Nat} {P1 P2 : Addr} (D : Df K mg "numbered_rule" s_numbered_rule ["rule"]) (c_atoms_of_rule : Cl P w K mg base k "atoms_of_rule" ["rule"] spAor) (c_numbered : Cl P w K mg base k "numbered" ["terms"] (spNumbered P1 P2 d)) : Cl P w K mg base (k + 1) "numbered_rule" ["rule"] (spNumRule P1 P2 d) := by
  refine D.ok sc_numbered_rule (fun vs H Q E h => ?_) (fun f cdv A outer s H vs Q E hr h => ?_)
  · obtain ⟨p, z, ps, c, rfl, _⟩ := h
    rfl
  obtain ⟨p, z, ps, c, rfl, R, hl, hd, hz, g1, g2, q⟩ := h
  refine' ⟨_, pss_cons ?a1 (pss_one ?a2), ?rst⟩
  case a1 => exact ps_set (i := 1) sc_numbered_rule.nd rfl (.inl rfl) (pe_cl c_numbered hr (Nat.le_refl _) (by rfl) (pa_cons (pe_cl c_atoms_of_rule hr (Nat.le_refl _) (by rfl) (pa_cons (pv 0) pa_nil)) pa_nil))
  case a2 => exact ps_ret (pe_tup (pa_cons (pe_ix ix_tup (pv 0) pe_int (fun _ _ => rfl)) (pa_cons (pe_slice sl_tup (pv 1) (po_some pe_int) po_none) (pa_cons (pe_ix ix_tup (pv 1) pe_int (fun _ _ => rfl)) pa_nil))))
  case rst =>
  rw [show L2.start n_numbered_rule [.ref p] = [some (.ref p), none] from rfl]
  walk_at "rd"
  refine ⟨p, z, ps, c, rfl, R, hl, fun H1 b ys k1 e1 a1 => ?_⟩
  walk_at "rd"
  refine ⟨b, ys, c :: ps, rfl, e1, a1, hd, hz, g1.keep0 k1, g2.keep0 k1, fun H2 p2 ws k2 g12 g22 e2 a2 => ?_⟩
  have kT2 : KeepT H1 H2 := k2.keepT fun b hb ys => by
    rcases List.mem_cons.mp hb with z | z
    · exact no_tupT (g1.keep0 k1) b (by simp [z]) ys
    · exact no_tupT (g2.keep0 k1) b z ys
  obtain ⟨r, v0, us, er, er2, ac, au⟩ := (R.nil k1).keep kT2
  obtain ⟨c', ps', en⟩ : ∃ c' ps', c' :: ps' = numd (c :: ps) := by unfold numd; exact ⟨_, _, rfl⟩
  rw [← en] at a2
  have ln := a2.len
  obtain ⟨y0, yr, rfl⟩ : ∃ y0 yr, ws = y0 :: yr := by
    cases ws with
    | nil => simp at ln
    | cons y0 yr => exact ⟨y0, yr, rfl⟩
  walk_at "rd"
  refine d_slT1 e2 (fun r3 hr3 => ?_)
  have k3 : Kp [] H2 (upd H2 r3 (.tup yr)) := Kp.new hr3
  have e23 := k3 _ _ (by simp) e2
  have er3 : (upd H2 r3 (.tup yr)) r3 = some (.tup yr) := upd_same
  have a3 := k3.ats (by simp) a2
  generalize (upd H2 r3 (.tup yr)) = H3 at k3 e23 er3 a3 ⊢
  walk_at "rd"
  refine d_ixT0 e23 ?_
  walk_at "rd"
  refine ⟨smallN (show 3 ≤ 1000000 by decide), fun p4 hp4 => ?_⟩
  have k4 : Kp [] H3 (upd H3 p4 (.tup [.str z, .ref r3, y0])) := Kp.new hp4
  have k34 := k3.trans k4
  exact q _ p4 ps' c' ((k1.mono (by simp)).trans (k2.trans (k34.mono (by simp)))) (g12.keep0 k34) (g22.keep0 k34) ⟨r3, y0, yr, upd_same, k4 _ _ (by simp) er3, a3.head.nil k4, k4.ats (by simp) a3.tail⟩ en

abbrev s_is_valid_rule : Stmt := top 23
abbrev n_is_valid_rule : List Str := ["rule", "name", "premises", "conclusion"]
theorem sc_is_valid_rule : FnScope n_is_valid_rule ["rule"] (defScope s_is_valid_rule) := ⟨rfl, rfl, rfl, by decide +kernel, rfl, by decide +kernel, by decide +kernel⟩
theorem ok_vrule {P : Program} {w : World} {K : PySem.W.Frag} {mg : Str → Option Value} {base : Heap} {k : Nat} {d : Nat} {c Pn Pa P0 P1 P2 : Addr} (D : DfT K mg "is_valid_rule" s_is_valid_rule ["rule"] c) (TB : GxR.TabB base mg c P0) (nP : [Pn, Pa, P0, P1, P2].Nodup) (hd50 : 50 ≤ d) (c_is_name : Cl P w K mg base (k + 2) "is_name" ["text"] (spIsName Pn)) (c_is_valid_atom : Cl P w K mg base k "is_valid_atom" ["atom"] (spVAtom Pn Pa))
    (c_is_equation : Cl P w K mg base (k + 2) "is_equation" ["atom"] spIsEq) (c_atoms_of_rule : Cl P w K mg base (k + 2) "atoms_of_rule" ["rule"] spAor) (c_variables_of_rule : Cl P w K mg base (k + 2) "variables_of_rule" ["rule"] spVor) (c_numbered_rule : Cl P w K mg base (k + 2) "numbered_rule" ["rule"] (spNumRule P1 P2 d))
    (m_len : mg "len" = none) (m_all : mg "all" = none) (g_MOST_PREMISES : Glo mg "MOST_PREMISES" (.int 4)) (g_MOST_VARIABLES : Glo mg "MOST_VARIABLES" (.int 12)) : Cl P w K mg base (k + 3) "is_valid_rule" ["rule"] (spVRule Pn Pa P0 P1 P2) := by
  refine D.ok sc_is_valid_rule (fun vs H Q E h => ?_) (fun f A outer s H vs Q E hr h => ?_)
  · obtain ⟨p, z, ps, c, rfl, _⟩ := h
    rfl
  obtain ⟨p, z, ps, c, rfl, R, tz, hl, hn, hz, g, q⟩ := h
  refine' ⟨_, pss_cons ?a1 (pss_cons ?a2 (pss_cons ?a3 (pss_one ?a4))), ?rst⟩
  case a1 => exact ps_asg (pv 0) (pg_tup rfl (pgs_cons (pg_name (i := 1) sc_is_valid_rule.nd rfl (.inl rfl)) (pgs_cons (pg_name (i := 2) sc_is_valid_rule.nd rfl (.inl rfl)) (pgs_cons (pg_name (i := 3) sc_is_valid_rule.nd rfl (.inl rfl)) pgs_nil))))
  case a2 => exact ps_if (PW.pt (pw_or (pt_not (pt_val (pe_cl c_is_name hr (Nat.le_refl _) (by rfl) (pa_cons (pv 1) pa_nil)))) (pw_or1 (pt_cmpR op_gt (pe_callB c_len (by rfl) m_len b_len (pa_cons (pv 2) pa_nil)) (pe_gl (by rfl) g_MOST_PREMISES) (nomark _))))) (pss_one (ps_ret pe_bl)) pss_nil
  case a3 => exact ps_if (PW.pt (pw_or (pt_not (pt_val (pe_allGa (x := "atom") (fr := []) (js := []) (k := k) (P := P0) hr TB rfl (gxscope_by (show gxsB _ _ (defScope s_is_valid_rule) _ = true by decide +kernel)) rfl (pi_tup (pe_cl c_atoms_of_rule hr (Nat.le_refl _) (by rfl) (pa_cons (pv 0) pa_nil))) (fun C code A2 sc H0 fp pn hrg => (pe_cl c_is_valid_atom hrg (Nat.le_refl _) (by rfl) (pa_cons (pv 0) pa_nil))) (by rfl) m_all))) (pw_or1 (pt_val (pe_cl c_is_equation hr (Nat.le_refl _) (by rfl) (pa_cons (pv 3) pa_nil)))))) (pss_one (ps_ret pe_bl)) pss_nil
  case a4 => exact ps_ret (pe_and (pe_cmpR op_le (pe_callB c_len (by rfl) m_len b_len (pa_cons (pe_cl c_variables_of_rule hr (Nat.le_refl _) (by rfl) (pa_cons (pv 0) pa_nil)) pa_nil)) (pe_gl (by rfl) g_MOST_VARIABLES) (nomark _)) (pe_one (pe_cmpR (op_eqD hr.u64) (pe_cl c_numbered_rule hr (Nat.le_refl _) (by rfl) (pa_cons (pv 0) pa_nil)) (pv 0) (nomark _))))
  case rst =>
  rw [show L2.start n_is_valid_rule [.ref p] = [some (.ref p), none, none, none] from rfl]
  obtain ⟨r, v0, ws, e1, e2, ac, aw⟩ := id R
  walk_at "rd"
  refine d_gtup3 e1 ?_
  have w0 := Wt.start g
  have nd := nP
  simp only [List.nodup_cons, List.mem_cons, List.not_mem_nil, or_false, not_or] at nd
  obtain ⟨cn, cts, hcn⟩ := (hn c (by simp)).2.2
  walk_at "rd"
  refine ⟨z, rfl, by have := tz.1; omega, g Pn (by simp), fun H1 k1 g1 => ?_⟩
  have w1 := w0.tabs k1 (by simp) (fun P hP => by rw [List.mem_singleton.mp hP]; exact g1)
  have lw := aw.len
  have fin : ∀ {H' : Hp} (b : Bool), (b = true ↔ VRule z ps c) → Wt H H' [Pn, Pa, P0, P1, P2] → Q (.bl b) H' := fun {H'} b h w => by
    have := q H' w.k w.g
    rw [show decide (VRule z ps c) = b from by rw [Bool.eq_iff_iff, decide_eq_true_iff, h]] at this
    exact this
  walk_at "rd"
  refine ite_ndc (fun c1 => ?_) (fun c1 => ?_)
  · refine iteT ?_
    walk_at "rd"
    exact fin false ⟨(fun h => nomatch h), fun h => absurd h.1 c1⟩ w1
  have R1 := w1.rule R
  have e21 := w1.kT _ _ e2
  walk_at "rd"
  refine ite_dc (fun c2 => ?_) (fun c2 => ?_)
  · walk_at "rd"
    exact fin false ⟨(fun h => nomatch h), fun h => by have := h.2.1; omega⟩ w1
  have l4 : ps.length ≤ 4 := by omega
  walk_at "rd"
  refine d_allGa (d_ga ?_)
  walk_at "rd"
  refine ⟨p, z, ps, c, rfl, R1, by omega, fun H2 b ys k2 e2' a2 => ?_⟩
  have w2 := w1.nil k2
  walk_at "rd"
  refine ⟨⟨ys, sqT e2'⟩, w2.g P0 (by simp), fun H3 tbd => ?_⟩
  have w3 := w2.tabs (kp_tabbed tbd) (by simp) (fun P hP => by rw [List.mem_singleton.mp hP]; exact tbd.1)
  have a3 := a2.keep ((w2.re.tabs (kp_tabbed tbd) (by simp) (fun P hP => by rw [List.mem_singleton.mp hP]; exact tbd.1)).kT)
  have e3 := (w2.re.tabs (kp_tabbed tbd) (by simp) (fun P hP => by rw [List.mem_singleton.mp hP]; exact tbd.1)).kT _ _ e2'
  have w33 := w3.re
  refine ga_tup (xs := ys) (fun i H' => Wt H3 H' [Pn, Pa, P0, P1, P2] ∧ Wt H H' [Pn, Pa, P0, P1, P2] ∧ ∀ a ∈ (c :: ps).take i, VAtom a) ⟨w33, w3, fun a ha => by simp at ha⟩ (fun i H' _ h' => sqT (h'.1.kT _ _ e3)) (fun i x H' hx h' => ?_) (fun H4 h4 => ?_)
  · obtain ⟨w5, w6, m6⟩ := h'
    obtain ⟨a, ea, aa⟩ := a3.get hx
    have ma := List.mem_of_getElem? ea
    obtain ⟨n1, n2, an, ats, rfl⟩ := hn a ma
    have sa := Tm.size_mem ma
    show tCall (spVAtom Pn Pa) [] E0 _ [some x] H' _
    walk_at "rd"
    refine ⟨x, an, ats, rfl, aa.keep w5.kT, n1, by omega, by omega, w5.g Pn (by simp), w5.g Pa (by simp), fun H7 k7 gn7 ga7 => ?_⟩
    have tt : ∀ P ∈ [Pn, Pa], GxR.TabG H7 P := fun P hP => by
      rcases List.mem_cons.mp hP with z | z
      · rw [z]; exact gn7
      · rw [List.mem_singleton.mp z]; exact ga7
    have sb : ∀ a ∈ [Pn, Pa], a ∈ [Pn, Pa, P0, P1, P2] := fun a ha => by
      rcases List.mem_cons.mp ha with z | z
      · simp [z]
      · simp [List.mem_singleton.mp z]
    have w67 := w6.tabs k7 sb tt
    refine ⟨_, rfl, fun e => ⟨w5.tabs k7 sb tt, w67, fun u hu => ?_⟩, fun e => ?_⟩
    · rw [take_succ_of ea] at hu
      rcases List.mem_append.mp hu with hu | hu
      · exact m6 u hu
      · rw [List.mem_singleton.mp hu]; exact of_decide_eq_true e
    · walk_at "rd"
      refine iteT ?_
      try refine iteT ?_
      walk_at "rd"
      exact fin false ⟨(fun h => nomatch h), fun h => absurd (decide_eq_true (h.2.2.1 _ ma)) e⟩ w67
  obtain ⟨w5, w6, m6⟩ := h4
  have m6 : ∀ a ∈ c :: ps, VAtom a := by rw [a3.take_all] at m6; exact m6
  clear w5 w33 w3 e3 a3 tbd w2 e2' a2 k2 e21 R1 w1 g1 k1
  have ac' := ac.keep w6.kT
  subst hcn
  have ceq : (Tm.app cn cts).nm = cn := rfl
  walk_at "rd"
  refine iteF ?_
  walk_at "rd"
  refine ⟨v0, cn, cts, rfl, ac', ?_⟩
  walk_at "rd"
  refine ite_dc (fun c3 => ?_) (fun c3 => ?_)
  · walk_at "rd"
    exact fin false ⟨(fun h => nomatch h), fun h => absurd c3 h.2.2.2.1⟩ w6
  walk_at "rd"
  refine ⟨p, z, ps, _, rfl, w6.rule R, by omega, by omega, fun H5 q5 k5 e5 => ?_⟩
  have w7 := w6.nil k5
  walk_at "rd"
  rw [List.length_map]
  refine ite_dc (fun c4 => ?_) (fun c4 => ?_)
  · walk_at "rd"
    refine ⟨p, z, ps, _, rfl, w7.rule R, by omega, fun a ha => by have := (hn a ha).2.1; omega, by omega, w7.g P1 (by simp), w7.g P2 (by simp), fun H6 q6 ps' c' k6 g61 g62 R6 en => ?_⟩
    have tt : ∀ P ∈ [P1, P2], GxR.TabG H6 P := fun P hP => by
      rcases List.mem_cons.mp hP with z | z
      · rw [z]; exact g61
      · rw [List.mem_singleton.mp z]; exact g62
    have sb : ∀ a ∈ [P1, P2], a ∈ [Pn, Pa, P0, P1, P2] := fun a ha => by
      rcases List.mem_cons.mp ha with z | z
      · simp [z]
      · simp [List.mem_singleton.mp z]
    have w8 := w7.tabs k6 sb tt
    have hn2 : ∀ a ∈ c' :: ps', a.Nice ∧ a.depth ≤ 50 := fun a ha => by
      rw [en] at ha
      exact ⟨numd_nice (fun t ht => (hn t ht).1) (by omega) a ha, numd_depth (fun t ht => (hn t ht).2.1) a ha⟩
    have hs2 : Tm.sizes (c' :: ps') ≤ 7000 := by rw [en]; exact Nat.le_trans (numd_sizes _) hz
    walk_at "rd"
    refine d_eqRule R6 (w8.rule R) ((ruleD_gd tz hn2 hs2).good (by decide) (by decide)) ((ruleD_gd tz (fun a ha => ⟨(hn a ha).1, (hn a ha).2.1⟩) hz).good (by decide) (by decide)) ?_
    refine fin _ ?_ w8
    rw [decide_eq_true_iff, en]
    constructor
    · rintro ⟨_, h⟩
      exact ⟨c1, l4, m6, c3, by omega, h⟩
    · intro h
      exact ⟨rfl, h.2.2.2.2.2⟩
  · exact fin false ⟨(fun h => nomatch h), fun h => absurd (by have := h.2.2.2.2.1; omega) c4⟩ w7

abbrev s_law : Stmt := top 40
abbrev n_law : List Str := ["script", "tape", "symbols", "relations", "rule", "found", "factor", "base", "table", "variable", "merged", "first", "other", "atom", "atoms", "told"]
theorem sc_law : FnScope n_law ["script"] (defScope s_law) := ⟨rfl, rfl, rfl, by decide +kernel, rfl, by decide +kernel, by decide +kernel⟩
def spLawT (K : PySem.W.Frag) (cs : List Addr) : Sp := fun vs H Q _ => ∃ (a : Addr) (ns : List Int), vs = [.ref a] ∧ SqL K H a (ns.map V.int) ∧ ns.length ≤ 63 ∧ OnlyT cs H ∧ ∀ H', Q (.bl true) H'
theorem ok_law {P : Program} {w : World} {K : PySem.W.Frag} {mg : Str → Option Value} {base : Heap} {k : Nat} {f Pn Pa Pr P1 P2 rf : Addr} {fd : FuncData} {of : Obj} {cs : List Addr} (F : Fun K "law" "law" s_law f fd) (hcs : ∀ P ∈ [Pn, Pa, Pr, P1, P2], P ∈ cs)
    (c_law_tape : Cl P w K mg base k "_law_tape" ["script"] (spTape K)) (c_law_draw : Cl P w K mg base k "_law_draw" ["tape", "many"] spDraw) (c_law_symbols : Cl P w K mg base k "_law_symbols" ["tape", "many"] spSymbols)
    (c_law_relations : Cl P w K mg base k "_law_relations" ["tape", "many"] spRels) (c_law_word : Cl P w K mg base k "_law_word" ["tape", "stem"] spWord) (c_law_rule : Cl P w K mg base k "_law_rule" ["tape", "name", "relations", "symbols", "many", "premises"] spRule)
    (c_law_numbered : Cl P w K mg base k "_law_numbered" ["terms"] (spLNumbered 10)) (c_law_variables : Cl P w K mg base k "_law_variables" ["terms"] (spLVars 10)) (c_law_replaced : Cl P w K mg base k "_law_replaced" ["term", "table"] (spRepl 10))
    (c_law_alike : Cl P w K mg base k "_law_alike" ["told", "due"] (spAlikeD K)) (c_law_alikeB : Cl P w K mg base k "_law_alike" ["told", "due"] spAlikeB) (c_law_alikeK : Cl P w K mg base k "_law_alike" ["told", "due"] (spAlikeK K))
    (c_numbered_rule : Cl P w K mg base k "numbered_rule" ["rule"] (spNumRule P1 P2 50)) (c_is_valid_rule : Cl P w K mg base k "is_valid_rule" ["rule"] (spVRule Pn Pa Pr P1 P2))
    (g_REFL : Glo mg "REFL" (.ref rf)) (lkf : K.lookup rf = some of) (cof : of.cls = .type "tuple") (dpf : ∀ H, Dp K H (.ref rf) (ruleD "refl" [] (.app "=" [.var 0, .var 0])))
    (m_range : mg "range" = none) (m_tuple : mg "tuple" = none) (m_len : mg "len" = none) (m_list : mg "list" = none) (m_int : mg "int" = none) : FnG P w K mg base (k + 1) f fd ["script"] (spLawT K cs) := by
  refine Fun.okG F sc_law (fun vs H Q E h => ?_) (fun cdv A outer s H vs Q E hr h => ?_)
  · obtain ⟨a, ns, rfl, _⟩ := h
    rfl
  obtain ⟨a, ns, rfl, hS, hlen, hO, q⟩ := h
  refine' ⟨_, pss_cons ?a1 (pss_cons ?a2 (pss_cons ?a3 (pss_cons ?a4 (pss_cons ?a5 (pss_cons ?a6 (pss_cons ?a7 (pss_cons ?a8 (C8.pss_cut ?a9 (C8.pss_cut ?a10 (C8.pss_cut ?a11 (pss_cons ?a12 (pss_cons ?a13 (pss_cons ?a14 (C8.pss_cut ?a15 (C8.pss_cut ?a16 (pss_one ?a17)))))))))))))))), ?rst⟩
  case a1 => exact ps_set (i := 1) sc_law.nd rfl (.inl rfl) (pe_cl c_law_tape hr (Nat.le_refl _) (by rfl) (pa_cons (pv 0) pa_nil))
  case a2 => exact ps_set (i := 2) sc_law.nd rfl (.inl rfl) (pe_cl c_law_symbols hr (Nat.le_refl _) (by rfl) (pa_cons (pv 1) (pa_cons (pe_op op_add pe_int (pe_cl c_law_draw hr (Nat.le_refl _) (by rfl) (pa_cons (pv 1) (pa_cons pe_int pa_nil)))) pa_nil)))
  case a3 => exact ps_set (i := 3) sc_law.nd rfl (.inl rfl) (pe_cl c_law_relations hr (Nat.le_refl _) (by rfl) (pa_cons (pv 1) (pa_cons (pe_op op_add pe_int (pe_cl c_law_draw hr (Nat.le_refl _) (by rfl) (pa_cons (pv 1) (pa_cons pe_int pa_nil)))) pa_nil)))
  case a4 => exact ps_set (i := 4) sc_law.nd rfl (.inl rfl) (pe_cl c_law_rule hr (Nat.le_refl _) (by rfl) (pa_cons (pv 1) (pa_cons (pe_cl c_law_word hr (Nat.le_refl _) (by rfl) (pa_cons (pv 1) (pa_cons pe_str pa_nil))) (pa_cons (pv 3) (pa_cons (pv 2) (pa_cons (pe_op op_add pe_int (pe_cl c_law_draw hr (Nat.le_refl _) (by rfl) (pa_cons (pv 1) (pa_cons pe_int pa_nil)))) (pa_cons (pe_cl c_law_draw hr (Nat.le_refl _) (by rfl) (pa_cons (pv 1) (pa_cons pe_int pa_nil))) pa_nil)))))))
  case a5 => exact ps_set (i := 5) sc_law.nd rfl (.inl rfl) (pe_cl c_law_variables hr (Nat.le_refl _) (by rfl) (pa_cons (pe_op op_cat (pe_lst (pa_cons (pe_ix ix_tup (pv 4) pe_int (fun _ _ => rfl)) pa_nil)) (pe_callTy call_list_of (by rfl) m_list b_list (pa_cons (pe_ix ix_tup (pv 4) pe_int (fun _ _ => rfl)) pa_nil))) pa_nil))
  case a6 => exact ps_set (i := 6) sc_law.nd rfl (.inl rfl) (pe_ix ix_list (pe_lst (pa_cons pe_int (pa_cons pe_int (pa_cons pe_int (pa_cons pe_int (pa_cons pe_int (pa_cons pe_int pa_nil))))))) (pe_cl c_law_draw hr (Nat.le_refl _) (by rfl) (pa_cons (pv 1) (pa_cons pe_int pa_nil))) (fun _ _ => rfl))
  case a7 => exact ps_set (i := 7) sc_law.nd rfl (.inl rfl) (pe_cl c_law_draw hr (Nat.le_refl _) (by rfl) (pa_cons (pv 1) (pa_cons pe_int pa_nil)))
  case a8 => exact ps_set (i := 8) sc_law.nd rfl (.inr rfl) pe_dnewK
  case a9 => exact ps_for PassesOwn.never rfl (pi_list (pv 5)) (pg_name (i := 9) sc_law.nd rfl (.inl rfl)) (pss_one (ps_dput hr.u1 (pv 8) (pv 9) (pe_op op_modN (pe_callTy call_int1 (by rfl) m_int b_int (pa_cons (pe_op op_add (pe_op op_mul (pv 9) (pv 6)) (pv 7)) pa_nil)) pe_int) (by rfl)))
  case a10 => exact ps_set (i := 10) sc_law.nd rfl (.inl rfl) (pe_and (pe_cmpR op_gt (pe_callB c_len (by rfl) m_len b_len (pa_cons (pv 5) pa_nil)) pe_int (nomark _)) (pe_one (pe_cmpR op_eq (pe_cl c_law_draw hr (Nat.le_refl _) (by rfl) (pa_cons (pv 1) (pa_cons pe_int pa_nil))) pe_int (nomark _))))
  case a11 => exact ps_if (pt_val (pv 10)) (pss_cons (ps_set (i := 11) sc_law.nd rfl (.inl rfl) (pe_cl c_law_draw hr (Nat.le_refl _) (by rfl) (pa_cons (pv 1) (pa_cons (pe_op op_sub (pe_callB c_len (by rfl) m_len b_len (pa_cons (pv 5) pa_nil)) pe_int) pa_nil)))) (pss_one (ps_dput hr.u1 (pv 8) (pe_op op_add (pe_op op_add (pv 11) pe_int) (pe_cl c_law_draw hr (Nat.le_refl _) (by rfl) (pa_cons (pv 1) (pa_cons (pe_op op_sub (pe_op op_sub (pe_callB c_len (by rfl) m_len b_len (pa_cons (pv 5) pa_nil)) pe_int) (pv 11)) pa_nil)))) (pe_dget hr.u1 (pv 8) (pv 11) (fun _ _ => rfl)) (by rfl)))) pss_nil
  case a12 => exact ps_set (i := 12) sc_law.nd rfl (.inl rfl) (pe_tup (pa_cons (pe_ix ix_tup (pv 4) pe_int (fun _ _ => rfl)) (pa_cons (pe_callTy c_tup (by rfl) m_tuple b_tuple (pa_cons (pe_lc (own := [("atom", 13)]) (g := gName 13) (by rfl) sc_law.nd (pi_tup (pe_ix ix_tup (pv 4) pe_int (fun _ _ => rfl))) (blkOk_by (own := [("atom", 13)]) (N := n_law) (sc := defScope s_law) (by decide +kernel)) (fun _ _ _ _ _ => pg_name (i := 13) sc_law.nd rfl (Or.inl rfl)) (fun _ _ _ _ _ => pts_nil) (fun _ _ _ _ _ => (pe_cl c_law_replaced hr (Nat.le_refl _) (by rfl) (pa_cons (pv 13) (pa_cons (pv 8) pa_nil))))) pa_nil)) (pa_cons (pe_cl c_law_replaced hr (Nat.le_refl _) (by rfl) (pa_cons (pe_ix ix_tup (pv 4) pe_int (fun _ _ => rfl)) (pa_cons (pv 8) pa_nil))) pa_nil))))
  case a13 => exact ps_set (i := 14) sc_law.nd rfl (.inl rfl) (pe_cl c_law_numbered hr (Nat.le_refl _) (by rfl) (pa_cons (pe_op op_cat (pe_lst (pa_cons (pe_ix ix_tup (pv 12) pe_int (fun _ _ => rfl)) pa_nil)) (pe_callTy call_list_of (by rfl) m_list b_list (pa_cons (pe_ix ix_tup (pv 12) pe_int (fun _ _ => rfl)) pa_nil))) pa_nil))
  case a14 => exact ps_set (i := 15) sc_law.nd rfl (.inl rfl) (pe_cl c_numbered_rule hr (Nat.le_refl _) (by rfl) (pa_cons (pv 12) pa_nil))
  case a15 => exact ps_if (PW.pt (pw_or (pt_not (pt_val (pe_cl c_law_alike hr (Nat.le_refl _) (by rfl) (pa_cons (pv 15) (pa_cons (pe_tup (pa_cons (pe_ix ix_tup (pv 4) pe_int (fun _ _ => rfl)) (pa_cons (pe_callTy c_tup (by rfl) m_tuple b_tuple (pa_cons (pe_slice sl_list (pv 14) (po_some pe_int) po_none) pa_nil)) (pa_cons (pe_ix ix_list (pv 14) pe_int (fun _ _ => rfl)) pa_nil)))) pa_nil))))) (pw_or1 (pt_cmpR op_eq (pe_cmpR (op_eqD hr.u64) (pv 15) (pv 4) (nomark _)) (pv 10) (nomark _))))) (pss_one (ps_ret pe_bl)) pss_nil
  case a16 => exact ps_if (PW.pt (pw_or (pt_not (pt_val (pe_cl c_law_alike hr (Nat.le_refl _) (by rfl) (pa_cons (pe_cl c_numbered_rule hr (Nat.le_refl _) (by rfl) (pa_cons (pv 15) pa_nil)) (pa_cons (pv 15) pa_nil))))) (pw_or1 (pt_not (pt_val (pe_cl c_law_alike hr (Nat.le_refl _) (by rfl) (pa_cons (pe_cl c_numbered_rule hr (Nat.le_refl _) (by rfl) (pa_cons (pv 4) pa_nil)) (pa_cons (pv 4) pa_nil)))))))) (pss_one (ps_ret pe_bl)) pss_nil
  case a17 => exact ps_ret (pe_and (pe_cl c_law_alikeB hr (Nat.le_refl _) (by rfl) (pa_cons (pe_cl c_is_valid_rule hr (Nat.le_refl _) (by rfl) (pa_cons (pv 15) pa_nil)) (pa_cons pe_bl pa_nil))) (pe_one (pe_cl c_law_alikeK hr (Nat.le_refl _) (by rfl) (pa_cons (pe_gl (by rfl) g_REFL) (pa_cons (pe_tup (pa_cons pe_str (pa_cons (pe_tup pa_nil) (pa_cons (pe_tup (pa_cons pe_str (pa_cons pe_int (pa_cons pe_int pa_nil)))) pa_nil)))) pa_nil)))))
  case rst =>
  rw [show L2.start n_law [.ref a] = [some (.ref a), none, none, none, none, none, none, none, none, none, none, none, none, none, none, none] from rfl]
  walk_at "rd"
  refine ⟨a, ns, rfl, hS, fun H1 t sc k1 _ _ T1 => ?_⟩
  have w := Wl.start (Ps := [Pn, Pa, Pr, P1, P2]) (B := H1) (t := t) (sc := sc) (ns := ns) ⟨T1, fun P hP => GxR.TabG.keep0 ⟨#[], hO.1 P (hcs P hP), trivial⟩ k1⟩
  walk_at "rd"
  refine ⟨t, sc, ns, 3, rfl, w.n.tp, by decide, by decide, fun H2 n2 k2 T2 n20 n21 => ?_⟩
  have w2 := w.tape k2 T2
  walk_at "rd"
  refine ⟨t, sc, ns, _, rfl, T2, by omega, by omega, fun H3 sy zs k3 T3 _ S3 lz => ?_⟩
  have w3 := w2.tape k3 T3
  walk_at "rd"
  refine ⟨t, sc, ns, 3, rfl, T3, by decide, by decide, fun H4 n3 k4 T4 n30 n31 => ?_⟩
  have w4 := w3.tape k4 T4
  walk_at "rd"
  refine ⟨t, sc, ns, _, rfl, T4, by omega, by omega, fun H5 re rs k5 T5 _ R5 lr => ?_⟩
  have w5 := w4.tape k5 T5
  walk_at "rd"
  refine ⟨t, sc, ns, "nameOfTheRule", rfl, T5, stem_rule, fun H6 name k6 T6 hname => ?_⟩
  have w6 := w5.tape k6 T6
  walk_at "rd"
  refine ⟨t, sc, ns, 4, rfl, T6, by decide, by decide, fun H7 n4 k7 T7 n40 n41 => ?_⟩
  have w7 := w6.tape k7 T7
  walk_at "rd"
  refine ⟨t, sc, ns, 5, rfl, T7, by decide, by decide, fun H8 n5 k8 T8 n50 n51 => ?_⟩
  have w8 := w7.tape k8 T8
  have S8 := (((((w3.re.tape k4 T4).tape k5 T5).tape k6 T6).tape k7 T7).tape k8 T8).syms S3
  have R8 := (((w5.re.tape k6 T6).tape k7 T7).tape k8 T8).syms R5
  obtain ⟨m4, rfl⟩ : ∃ m : Nat, n4 = m := ⟨n4.toNat, by omega⟩
  obtain ⟨m5, rfl⟩ : ∃ m : Nat, n5 = m := ⟨n5.toNat, by omega⟩
  walk_at "rd"
  refine ⟨t, sc, re, sy, ns, rs, zs, name, 1 + m4, m5, by rw [show (1 + (m4 : Int)) = ((1 + m4 : Nat) : Int) by omega], T8, R8, S8, by omega, by omega, by omega, by omega, fun H9 p r v0 ws c c0 ps ps0 k9 T9 _ ep er a0 aw en g0 gs lp => ?_⟩
  have w9 := w8.tape k9 T9
  have Ru : RuleAt H9 p name ps c := ⟨r, v0, ws, ep, er, a0, aw⟩
  have w := w9.re
  have okz := S8.ok
  have okr := R8.ok
  clear w2 w3 w4 w5 w6 w7 w8 w9 S3 R5 S8 R8 k1 k2 k3 k4 k5 k6 k7 k8 k9
  have hv := vars_nice (is := intsTo (1 + m4)) fun i hi => by
    obtain ⟨k0, hk, rfl⟩ := List.mem_map.mp hi
    have := List.mem_range.mp hk
    omega
  have hvi : ∀ x ∈ (intsTo (1 + m4)).map Tm.var, ∀ i ∈ x.ints, i ∈ intsTo (1 + m4) := fun x hx i hi => by
    obtain ⟨j, hj, rfl⟩ := List.mem_map.mp hx
    rw [Tm.ints_var] at hi
    rw [List.mem_singleton.mp hi]; exact hj
  have hvv : ∀ x ∈ (intsTo (1 + m4)).map Tm.var, ∃ i, x = Tm.var i := fun x hx => by
    obtain ⟨j, hj, rfl⟩ := List.mem_map.mp hx
    exact ⟨j, rfl⟩
  let Arg : Tm → Prop := fun u => u.Nice ∧ u.depth ≤ 2 ∧ u.size ≤ 4 ∧ (∀ i ∈ u.ints, i ∈ intsTo (1 + m4)) ∧ ∀ x ∈ u.apps, IsName x.nm ∧ x.args.length ≤ 8
  have gArg : ∀ {d : Nat} {u : Tm}, d ≤ 1 → Gen zs ((intsTo (1 + m4)).map Tm.var) d u → Arg u := fun {d u} hd g => by
    have h1 := g.nice (fun z hz => txt_of_name (okz z hz).1) (fun x hx => (hv x hx).1)
    have h2 := g.depth (fun x hx => (hv x hx).2.1) (Nat.le_refl _)
    have h3 := g.size (fun z hz => (okz z hz).2.2) (fun x hx => (hv x hx).2.2) (Nat.le_refl _)
    have h4 := g.ints hvi
    have h5 := g.appsOk okz hvv
    have hd : d = 0 ∨ d = 1 := by omega
    have hm : genMax 1 d ≤ 4 := by rcases hd with rfl | rfl <;> decide
    exact ⟨h1, by omega, by omega, h4, fun x hx => ⟨(h5 x hx).1, by have := (h5 x hx).2; omega⟩⟩
  have mk : ∀ z us, TxtOk z → us.length ≤ 3 → (IsName z ∨ (z = "=" ∧ us.length = 2)) → (∀ u ∈ us, Arg u) → (Tm.app z us).Nice ∧ (Tm.app z us).depth ≤ 3 ∧ (Tm.app z us).size ≤ 13 ∧ (∃ n vs, Tm.app z us = Tm.app n vs) ∧ (∀ i ∈ (Tm.app z us).ints, i ∈ intsTo (1 + m4)) ∧ VAtom (.app z us) := fun z us tz l3 hz g => by
    have h1 := Tm.depths_le (ts := us) (d := 2) fun u hu => (g u hu).2.1
    have h2 := Tm.sizes_le (ts := us) (m := 4) fun u hu => (g u hu).2.2.1
    have h3 : us.length * 4 ≤ 3 * 4 := Nat.mul_le_mul_right _ l3
    have d1 : (Tm.app z us).depth ≤ 3 := by rw [Tm.depth_app]; omega
    have s1 : (Tm.app z us).size ≤ 13 := by rw [Tm.size_app]; omega
    refine ⟨by rw [Tm.nice_app, Tm.nices_iff]; exact ⟨tz, fun u hu => (g u hu).1⟩, d1, s1, ⟨_, _, rfl⟩, fun i hi => ?_, vatom_mk hz (by omega) (fun t ht => (g t ht).2.2.2.2) (by omega) (by omega)⟩
    rw [Tm.ints_app] at hi
    obtain ⟨u, hu, hi⟩ := mem_intss.mp hi
    exact (g u hu).2.2.2.1 i hi
  have mkA : ∀ {e : Nat} {x : Tm}, e ≤ 1 → GenA rs zs ((intsTo (1 + m4)).map Tm.var) e x → ∃ z us, x = .app z us ∧ TxtOk z ∧ IsName z ∧ us.length ≤ 3 ∧ ∀ u ∈ us, Arg u := fun {e x} he g => by
    obtain ⟨z, n, us, rfl, hz, hl, hs⟩ := g
    have h3 : n ≤ 3 := (okr _ hz).2.2
    exact ⟨z, us, rfl, txt_of_name (okr _ hz).1, (okr _ hz).1.is, by omega, fun u hu => gArg he (hs u hu)⟩
  have all0 : ∀ x ∈ c0 :: ps0, x.Nice ∧ x.depth ≤ 3 ∧ x.size ≤ 13 ∧ (∃ n vs, x = Tm.app n vs) ∧ (∀ i ∈ x.ints, i ∈ intsTo (1 + m4)) ∧ VAtom x := fun x hx => by
    rcases List.mem_cons.mp hx with rfl | hx
    · obtain ⟨z, us, rfl, tz, nz, l3, ga⟩ := mkA (Nat.le_refl _) g0
      exact mk z us tz l3 (.inl nz) ga
    · rcases gs x hx with ⟨e0, he, g⟩ | ⟨x1, y1, rfl, ⟨e1, h1', gx⟩, e2', h2', gy⟩
      · obtain ⟨z, us, rfl, tz, nz, l3, ga⟩ := mkA he g
        exact mk z us tz l3 (.inl nz) ga
      · refine mk "=" [x1, y1] txt_eq (show 2 ≤ 3 by decide) (.inr ⟨rfl, rfl⟩) (fun u hu => ?_)
        rcases List.mem_cons.mp hu with rfl | hu
        · exact gArg h1' gx
        · rw [List.mem_singleton.mp hu]; exact gArg h2' gy
  have c0n : c0.nm ≠ "=" := by
    obtain ⟨z, us, rfl, tz, nz, l3, ga⟩ := mkA (Nat.le_refl _) g0
    exact name_ne_eq nz
  have sz0 := Tm.sizes_le fun x hx => (all0 x hx).2.2.1
  rw [List.length_cons] at sz0
  have sz1 : Tm.sizes (c0 :: ps0) ≤ 65 := by
    have : (ps0.length + 1) * 13 ≤ 5 * 13 := Nat.mul_le_mul_right _ (by omega)
    omega
  obtain ⟨N, hN⟩ : ∃ N, (vrs (c0 :: ps0)).length = N := ⟨_, rfl⟩
  have N4 : N ≤ 4 := by
    have := nodup_len (vrs (c0 :: ps0)) (intsTo (1 + m4)) (vrs_nodup _) fun i hi => by
      obtain ⟨x, hx, hi⟩ := mem_intss.mp (mem_vrs.mp hi)
      exact (all0 x hx).2.2.2.2.1 i hi
    rw [len_intsTo] at this
    omega
  have hV : vrs (c :: ps) = intsTo N := by rw [en, vrs_numd, hN]
  have allN : ∀ x ∈ c :: ps, x.Nice ∧ x.depth ≤ 3 ∧ (∃ n vs, x = Tm.app n vs) ∧ VAtom x := fun x hx => by
    have hx2 := hx
    rw [en] at hx2
    have h1 := numd_nice (fun x hx => (all0 x hx).1) (by omega : Tm.sizes (c0 :: ps0) ≤ 100000) x hx2
    have h2 := numd_depth (fun x hx => (all0 x hx).2.1) x hx2
    have h3 := numd_app (fun x hx => (all0 x hx).2.2.2.1) x hx2
    obtain ⟨y, hy, rfl⟩ := List.mem_map.mp hx2
    exact ⟨h1, h2, h3, (all0 y hy).2.2.2.2.2.ren Ren.renT⟩
  have szN : Tm.sizes (c :: ps) ≤ 65 := by rw [en]; exact Nat.le_trans (numd_sizes _) sz1
  have lps : ps.length = m5 := by
    have := len_numd (c0 :: ps0)
    rw [← en, List.length_cons, List.length_cons] at this
    omega
  have cnm : c.nm ≠ "=" := by
    have : c = c0.sub (renT (fun k => (k : Int)) (vrs (c0 :: ps0))) := by
      unfold numd at en
      rw [List.map_cons] at en
      exact (List.cons.inj en).1
    rw [this, (Ren.renT.same c0).2.1]
    exact c0n
  have fixn : numd (c :: ps) = c :: ps := by rw [en, numd_numd]
  clear hv hvi hvv gArg mk mkA all0 c0n sz0 sz1 hN en g0 gs
  walk_at "rd"
  refine ⟨smallN (show 1 ≤ 1000000 by decide), fun l1 hl1 => ?_⟩
  have lw := aw.len
  have k10 : Kp [] H9 (upd H9 l1 (.lst [v0])) := Kp.new hl1
  have el1 : (upd H9 l1 (.lst [v0])) l1 = some (.lst [v0]) := upd_same
  have w10 := w.nil k10
  generalize (upd H9 l1 (.lst [v0])) = H10 at k10 el1 w10 ⊢
  have ep10 := k10 _ _ (by simp) ep
  have er10 := k10 _ _ (by simp) er
  walk_at "rd"
  refine ⟨r, ws, rfl, .inr (sqT er10), fun l2 hl2 => ?_⟩
  have k11 : Kp [] H10 (upd H10 l2 (.lst ws)) := Kp.new hl2
  have el2 : (upd H10 l2 (.lst ws)) l2 = some (.lst ws) := upd_same
  have el12 := k11 _ _ (by simp) el1
  have w11 := w10.nil k11
  generalize (upd H10 l2 (.lst ws)) = H11 at k11 el2 el12 w11 ⊢
  refine d_cat el12 el2 (by show 1 + ws.length ≤ _; omega) (fun l3 hl3 => ?_)
  have k12 : Kp [] H11 (upd H11 l3 (.lst (v0 :: ws))) := Kp.new hl3
  have el3 : (upd H11 l3 (.lst (v0 :: ws))) l3 = some (.lst (v0 :: ws)) := upd_same
  have w12 := w11.nil k12
  show tNil _ (upd H11 l3 (.lst (v0 :: ws))) _
  generalize (upd H11 l3 (.lst (v0 :: ws))) = H12 at k12 el3 w12 ⊢
  walk_at "rd"
  refine ⟨l3, _, c :: ps, rfl, el3, .cons (w12.at' a0) (w12.ats aw), fun x hx => by have := (allN x hx).2.1; omega, by omega, fun H13 lf k13 hlf elf => ?_⟩
  have elf : H13 lf = some (.lst ((intsTo N).map V.int)) := by rw [← hV]; exact elf
  have w13 := w12.nil k13
  have nlf : lf ≠ t := fun z => w12.n.tp.t_some hlf z.symm
  clear k10 k11 k12 k13 el1 el2 el12 el3 ep10 er10 w10 w11 w12 hlf
  walk_at "rd"
  refine ⟨smallN (show 6 ≤ 1000000 by decide), fun l6 hl6 => ?_⟩
  have k14 : Kp [] H13 (upd H13 l6 (.lst (fac.map V.int))) := Kp.new hl6
  have el6 : (upd H13 l6 (.lst (fac.map V.int))) l6 = some (.lst (fac.map V.int)) := upd_same
  have w14 := w13.nil k14
  have elf14 := k14 _ _ (by simp) elf
  have nl6 : l6 ≠ t := fun z => w13.n.tp.t_some hl6 z.symm
  show tCall spDraw [] E0 _ _ (upd H13 l6 (.lst (fac.map V.int))) _
  generalize (upd H13 l6 (.lst (fac.map V.int))) = H14 at k14 el6 w14 elf14 ⊢
  walk_at "rd"
  refine ⟨t, sc, ns, 6, rfl, w14.n.tp, by decide, by decide, fun H15 n15 k15 T15 n150 n151 => ?_⟩
  have w15 := w14.tape k15 T15
  obtain ⟨fa, ea, mfa, fa0, fa1⟩ := fac_at n150 n151
  have elf15 := k15.one nlf elf14
  walk_at "rd"
  refine d_ixLc (k15.one nl6 el6) ea ?_
  walk_at "rd"
  refine ⟨t, sc, ns, 65536, rfl, T15, by decide, by decide, fun H16 b k16 T16 b0 b1 => ?_⟩
  have w16 := w15.tape k16 T16
  have elf16 := k16.one nlf elf15
  walk_at "rd"
  refine d_dnew (fun dl hdl => ?_)
  have k17 : Kp [] H16 (upd H16 dl (.dK [])) := Kp.new hdl
  have ed : (upd H16 dl (.dK [])) dl = some (.dK []) := upd_same
  have w17 := w16.nil k17
  have elf17 := k17 _ _ (by simp) elf16
  have ndt : dl ≠ t := fun z => w16.n.tp.t_some hdl z.symm
  have Bdl : H9 dl = none := w16.free hdl
  generalize (upd H16 dl (.dK [])) = H17 at k17 ed w17 elf17 ⊢
  clear k14 k15 k16 k17 el6 w13 w14 w15 w16 elf elf14 elf15 elf16 hl6 hdl T15 T16
  have nlfd : lf ≠ dl := fun z => by rw [z, ed] at elf17; cases elf17
  walk_at "rd"
  refine d_cut (fun σ H' => ∃ x9 kvs u, σ = [some (.ref a), some (.ref t), some (.ref sy), some (.ref re), some (.ref p), some (.ref lf), some (.int fa), some (.int b), some (.ref dl), x9, none, none, none, none, none, none] ∧ u = 0 ∧ H' dl = some (.dK kvs) ∧ kvs.length ≤ N ∧ TblAt H' kvs (renT (renF fa b) (intsTo N)) ∧ Kp [dl] H17 H') ?_ (fun σ H18 h18 => ?_)
  · walk_at "rd"
    refine ⟨⟨_, sqL elf17⟩, ?_⟩
    refine fr_list (xs := (intsTo N).map V.int) (fun i σ H' => ∃ x9 kvs u, σ = [some (.ref a), some (.ref t), some (.ref sy), some (.ref re), some (.ref p), some (.ref lf), some (.int fa), some (.int b), some (.ref dl), x9, none, none, none, none, none, none] ∧ u = 0 ∧ H' dl = some (.dK kvs) ∧ kvs.length ≤ i ∧ TblAt H' kvs (renT (renF fa b) ((intsTo N).take i)) ∧ Kp [dl] H17 H')
      ⟨none, [], 0, rfl, rfl, ed, Nat.zero_le _, by rw [List.take_zero, renT_nil]; exact .nil, Kp.refl _ _⟩ (fun i σ H' hi h' => ?_) (fun i y σ H' hx h' => ?_) (fun σ H' h' => ?_)
    · obtain ⟨_, _, _, _, _, _, _, _, k⟩ := h'
      exact sqL (k.one nlfd elf17)
    · obtain ⟨x9, kvs, _, rfl, _, e, lk, tb, k⟩ := h'
      obtain ⟨v, rfl, ev⟩ : ∃ v : Int, y = .int v ∧ (intsTo N)[i]? = some v := by
        rw [List.getElem?_map] at hx
        cases z : (intsTo N)[i]? with
        | none => rw [z] at hx; cases hx
        | some v => rw [z] at hx; exact ⟨v, (Option.some.inj hx).symm, rfl⟩
      have hi : i < N := by
        have := (List.getElem?_eq_some_iff.mp ev).1
        rw [len_intsTo] at this
        exact this
      have hv : v = (i : Int) := by
        have h1 : (intsTo N)[i]? = some (i : Int) := by
          unfold intsTo
          rw [List.getElem?_map, List.getElem?_range hi]
          rfl
        rw [h1] at ev
        exact (Option.some.inj ev).symm
      walk_at "rd"
      refine d_dput ?_
      walk_at "rd"
      have hve : v = (i : Int) := hv
      refine ⟨_, _, rfl, rfl, .inr ⟨by omega, by omega⟩, ?_⟩
      walk_at "rd"
      refine ⟨dl, _, rfl, DPut.k (k := .inl v) e (smallL (by omega)), ?_⟩
      walk_at "rd"
      have ni : v ∉ (intsTo N).take i := fun z => by
        have nd : (intsTo N).Nodup := by rw [← hV]; exact vrs_nodup _
        have nd : ((intsTo N).take i ++ [v]).Nodup := by
          rw [← take_succ_of ev]
          exact nd.sublist (List.take_sublist _ _)
        exact (List.nodup_append.mp nd).2.2 v z v (by simp) rfl
      refine ⟨_, _, 0, rfl, rfl, upd_same, ?_, ?_, k.trans (Kp.put (by simp))⟩
      · have := length_putK kvs (.inl v) (V.int ((v * fa + b).fmod 65536)); omega
      · have hl : ((intsTo N).take i).length = i := by rw [List.length_take, len_intsTo]; omega
        rw [take_succ_of ev, renT_snoc ni, hl]
        have ef : renF fa b i = (v * fa + b).fmod 65536 := by rw [hv]; rfl
        rw [ef]
        exact (tb.keep ((Kp.put (l := [dl]) (by simp)).keepT (no_tupD e))).put (.var _)
    · obtain ⟨x9, kvs, _, rfl, _, e, lk, tb, k⟩ := h'
      rw [List.length_map, len_intsTo] at lk
      rw [List.length_map, List.take_length] at tb
      walk_at "rd"
      exact ⟨x9, kvs, 0, rfl, rfl, e, lk, tb, k⟩
  obtain ⟨x9, kvs, _, rfl, _, e18, lk, tb, k18⟩ := h18
  have w18 := w17.own k18 Bdl
  have elf18 := k18.one nlfd elf17
  walk_at "rd"
  refine d_cut (fun σ H' => ∃ (mg : Bool) (u : Nat), σ = [some (.ref a), some (.ref t), some (.ref sy), some (.ref re), some (.ref p), some (.ref lf), some (.int fa), some (.int b), some (.ref dl), x9, some (.bl mg), none, none, none, none, none] ∧ u = 0 ∧ (mg = true → 2 ≤ N) ∧ Kp [t] H18 H' ∧ TapeAt H' t sc ns) ?_ (fun σ H19 h19 => ?_)
  · walk_at "rd"
    rw [List.length_map, len_intsTo]
    refine ite_dc (fun c => ?_) (fun c => ?_)
    · walk_at "rd"
      refine ⟨t, sc, ns, 3, rfl, w18.n.tp, by decide, by decide, fun H19 n19 k19 T19 n190 n191 => ?_⟩
      walk_at "rd"
      exact ⟨_, 0, rfl, rfl, fun _ => by omega, k19, T19⟩
    · walk_at "rd"
      exact ⟨false, 0, rfl, rfl, (fun z => nomatch z), Kp.refl _ _, w18.n.tp⟩
  obtain ⟨mg', _, rfl, _, hmg, k19, T19⟩ := h19
  have w19 := w18.tape k19 T19
  have e19 := k19.one ndt e18
  have elf19 := k19.one nlf elf18
  have tb19 := tb.keep (w18.n.tp.keepT k19)
  rw [← hV] at tb19
  clear w17 w18 k18 k19 e18 elf17 elf18 ed tb
  have inV : ∀ j : Int, 0 ≤ j → j < N → j ∈ vrs (c :: ps) := fun j h0 h1 => by
    rw [hV]
    refine List.mem_map.mpr ⟨j.toNat, List.mem_range.mpr (by omega), ?_⟩
    show ((j.toNat : Nat) : Int) = j
    omega
  walk_at "rd"
  refine d_cut (fun σ H' => ∃ x11 kvs θ, σ = [some (.ref a), some (.ref t), some (.ref sy), some (.ref re), some (.ref p), some (.ref lf), some (.int fa), some (.int b), some (.ref dl), x9, some (.bl mg'), x11, none, none, none, none] ∧ H' dl = some (.dK kvs) ∧ TblAt H' kvs θ ∧ Ren θ ∧ Tiny θ ∧ Wl H9 H' t sc ns [Pn, Pa, Pr, P1, P2] ∧
      ((mg' = false ∧ θ = renT (renF fa b) (vrs (c :: ps))) ∨ (mg' = true ∧ numd ((c :: ps).map (Tm.sub θ)) ≠ numd (c :: ps)))) ?_ (fun σ H20 h20 => ?_)
  · walk_at "rd"
    rcases mg' with _ | _
    · refine iteF ?_
      walk_at "rd"
      exact ⟨_, kvs, _, rfl, e19, tb19, .renT, Tiny.ren (renF_nice fa b), w19, .inl ⟨rfl, rfl⟩⟩
    · have N2 := hmg rfl
      refine iteT ?_
      walk_at "rd"
      rw [List.length_map, len_intsTo]
      refine ⟨t, sc, ns, _, rfl, T19, by omega, by omega, fun H20 fi k20 T20 f0 f1 => ?_⟩
      have w20 := w19.tape k20 T20
      have e20 := k20.one ndt e19
      have elf20 := k20.one nlf elf19
      have tb20 := tb19.keep (w19.n.tp.keepT k20)
      have ma0 := inV fi f0 (by omega)
      walk_at "rd"
      refine d_dput ?_
      refine d_dget ?_
      walk_at "rd"
      rcases tb20 fi with ⟨_, h2⟩ | ⟨u, t0, h1, h2, h3⟩
      · rw [renT_in _ ma0] at h2; cases h2
      rw [renT_in _ ma0] at h2
      have g : DGet H20 dl (V.int fi) (valV kvs (.inl fi)) := DGet.k (k := .inl fi) e20
      rw [h1] at g
      refine ⟨dl, u, rfl, g, ?_⟩
      walk_at "rd"
      rw [List.length_map, len_intsTo]
      refine ⟨t, sc, ns, _, rfl, T20, by omega, by omega, fun H21 xi k21 T21 x0 x1 => ?_⟩
      have w21 := w20.tape k21 T21
      have e21 := k21.one ndt e20
      have tb21 := tb20.keep (w20.n.tp.keepT k21)
      have h3 := h3.keep (w20.n.tp.keepT k21)
      have mb0 := inV (fi + 1 + xi) (by omega) (by omega)
      walk_at "rd"
      refine ⟨dl, _, rfl, DPut.k (k := .inl (fi + 1 + xi)) e21 (smallL (by omega)), ?_⟩
      walk_at "rd"
      have et : t0 = .var (renF fa b ((vrs (c :: ps)).idxOf fi)) := (Option.some.inj h2).symm
      have kT := (Kp.put (H := H21) (p := dl) (o := .dK (putK kvs (Sum.inl (fi + 1 + xi)) u)) (l := [dl]) (by simp)).keepT (no_tupD e21)
      refine ⟨_, _, _, rfl, upd_same, (tb21.keep kT).put (h3.keep kT), ?_, (Tiny.ren (renF_nice fa b)).put ?_, w21.put Bdl, .inr ⟨rfl, ?_⟩⟩
      · rw [et]; exact Ren.renT.put _ _
      · rw [et]
        exact ⟨(Tm.nice_var _).mpr (renF_nice _ _ _), by rw [Tm.size_var]; exact Nat.le_refl _, by rw [Tm.depth_var]; exact Nat.le_refl _⟩
      · rw [et]; exact drop_var ma0 mb0 (by omega)
  clear e19 elf19 tb19 w19 T19 hmg Bdl lk kvs inV
  obtain ⟨x11, kvs, θ, rfl, e20, tb20, hren, ti, w20, hs⟩ := h20
  obtain ⟨tn, tz⟩ := tiny_terms ti (fun t ht => (allN t ht).1) (fun t ht => (allN t ht).2.1)
  have ep20 := w20.tup ep
  have er20 := w20.tup er
  have a020 := w20.at' a0
  have aw20 := w20.ats aw
  walk_at "rd"
  have szc := Tm.size_mem (t := c) (ts := c :: ps) (by simp)
  refine ⟨⟨ws, sqT er20⟩, fun D2 hD2 => ?_⟩
  refine lb_tms (fun t => t.sub θ) (show 13 < 16 by decide) hD2 er20 (by omega) aw20 (fun v u H4 Q4 mu av kD hq => ?_) (fun H21 ys kD eD aD => ?_)
  · show tCall (spRepl 10) [] E0 _ [some (.ref a), some (.ref t), some (.ref sy), some (.ref re), some (.ref p), some (.ref lf), some (.int fa), some (.int b), some (.ref dl), x9, some (.bl mg'), x11, none, some v, none, none] H4 Q4
    walk_at "rd"
    have := Tm.size_mem (t := u) (ts := c :: ps) (List.mem_cons_of_mem _ mu)
    have := (allN u (List.mem_cons_of_mem _ mu)).2.1
    exact ⟨v, dl, u, kvs, θ, rfl, av, by omega, by omega, kD.one (ne_of_none e20 hD2) e20, tb20.keep (kD.keepT (no_tup0 hD2)), hq⟩
  have k21 := kD.less hD2
  have w21 := w20.nil k21
  walk_at "rd"
  intro r2 hr2
  have k22 : Kp [] H21 (upd H21 r2 (.tup ys)) := Kp.new hr2
  have er22 : (upd H21 r2 (.tup ys)) r2 = some (.tup ys) := upd_same
  have ay22 := k22.ats (by simp) aD
  have w22 := w21.nil k22
  have k2022 := k21.trans k22
  generalize (upd H21 r2 (.tup ys)) = H22 at k22 er22 ay22 w22 k2022 ⊢
  have ep22 := k2022 _ _ (by simp) ep20
  walk_at "rd"
  refine ⟨v0, dl, c, kvs, θ, rfl, a020.nil k2022, by have := (allN c (by simp)).2.1; omega, by omega, k2022 _ _ (by simp) e20, tb20.keep (k2022.keepT (by simp)), fun H23 v2 k23 av2 => ?_⟩
  have w23 := w22.nil k23
  walk_at "rd"
  refine ⟨smallN (show 3 ≤ 1000000 by decide), fun p2 hp2 => ?_⟩
  have k24 : Kp [] H23 (upd H23 p2 (.tup [.str name, .ref r2, v2])) := Kp.new hp2
  have k2224 := k23.trans k24
  have ep2 : (upd H23 p2 (.tup [.str name, .ref r2, v2])) p2 = some (.tup [.str name, .ref r2, v2]) := upd_same
  have w24 := w23.nil k24
  have av24 := av2.nil k24
  generalize (upd H23 p2 (.tup [.str name, .ref r2, v2])) = H24 at k24 k2224 ep2 w24 av24 ⊢
  have er24 := k2224 _ _ (by simp) er22
  have ay24 := ay22.keep (k2224.keepT (by simp))
  have W := w24.re
  clear k21 k22 k23 k24 k2022 k2224 kD eD aD er22 ay22 w20 w21 w22 w23 ep22 av2 tb20 e20 ep20 er20 a020 aw20 hr2 hp2 hD2
  have ly := ay24.len
  rw [List.length_map] at ly
  -- the numbered list
  walk_at "rd"
  refine ⟨smallN (show 1 ≤ 1000000 by decide), fun l1 hl1 => ?_⟩
  have k10 : Kp [] H24 (upd H24 l1 (.lst [v2])) := Kp.new hl1
  have el1 : (upd H24 l1 (.lst [v2])) l1 = some (.lst [v2]) := upd_same
  generalize (upd H24 l1 (.lst [v2])) = H25 at k10 el1 ⊢
  have ep25 := k10 _ _ (by simp) ep2
  walk_at "rd"
  refine ⟨r2, ys, rfl, .inr (sqT (k10 _ _ (by simp) er24)), fun l2 hl2 => ?_⟩
  have k11 : Kp [] H25 (upd H25 l2 (.lst ys)) := Kp.new hl2
  have el2 : (upd H25 l2 (.lst ys)) l2 = some (.lst ys) := upd_same
  have el12 := k11 _ _ (by simp) el1
  have k1011 := k10.trans k11
  generalize (upd H25 l2 (.lst ys)) = H26 at k11 el2 el12 k1011 ⊢
  refine d_cat el12 el2 (by show 1 + ys.length ≤ _; omega) (fun l3 hl3 => ?_)
  have k12 : Kp [] H26 (upd H26 l3 (.lst (v2 :: ys))) := Kp.new hl3
  have el3 : (upd H26 l3 (.lst (v2 :: ys))) l3 = some (.lst (v2 :: ys)) := upd_same
  have k1012 := k1011.trans k12
  show tNil _ (upd H26 l3 (.lst (v2 :: ys))) _
  generalize (upd H26 l3 (.lst (v2 :: ys))) = H27 at k12 el3 k1012 ⊢
  have w27 := W.nil k1012
  have aa27 : Ats H27 (v2 :: ys) ((c :: ps).map (Tm.sub θ)) := .cons (av24.nil k1012) (ay24.keep (k1012.keepT (by simp)))
  walk_at "rd"
  refine ⟨l3, _, (c :: ps).map (Tm.sub θ), rfl, el3, aa27, fun x hx => by have := (tn x hx).2; omega, by omega, fun H28 la zs' k28 hla ela ala => ?_⟩
  have w28 := w27.nil k28
  have O28 : RuleAt H28 p2 name (ps.map (Tm.sub θ)) (c.sub θ) := w28.rule ⟨r2, v2, ys, ep2, er24, av24, ay24⟩
  walk_at "rd"
  refine ⟨p2, name, _, _, rfl, O28, by rw [List.length_map]; omega, fun x hx => by have := (tn x hx).2; omega, by have := tz; rw [List.map_cons] at this; omega, w28.n.tb P1 (by simp), w28.n.tb P2 (by simp), fun H29 q1 ps1 c1 k29 g29 g29' T29 en1 => ?_⟩
  have w29 := w28.tabs k29 (by simp) (fun P hP => by
    rcases List.mem_cons.mp hP with rfl | hP
    · exact g29
    · rw [List.mem_singleton.mp hP]; exact g29')
  have nla : la ≠ t := fun z => w27.n.tp.t_some hla z.symm
  have w2829 := (w28.re).tabs k29 (by simp) (fun P hP => by
    rcases List.mem_cons.mp hP with rfl | hP
    · exact g29
    · rw [List.mem_singleton.mp hP]; exact g29')
  have ela := w2829.lst ela nla
  have ala := w2829.ats ala
  have R29 := (W.k.trans (Kp.refl _ _))
  have en1 : c1 :: ps1 = numd ((c :: ps).map (Tm.sub θ)) := en1
  rw [← en1] at ala
  have lz := ala.len
  obtain ⟨y0, yr, rfl⟩ : ∃ y0 yr, zs' = y0 :: yr := by
    cases zs' with
    | nil => simp at lz
    | cons y0 yr => exact ⟨y0, yr, rfl⟩
  have ll := len_numd ((c :: ps).map (Tm.sub θ))
  rw [← en1, List.length_map, List.length_cons, List.length_cons] at ll
  rw [List.length_cons, List.length_cons] at lz
  have P29 := (w24.k.trans w29.k)
  have fin1 : (c1 :: ps1 = c :: ps ↔ mg' = false) := by
    rw [en1]
    rcases hs with ⟨h1, h2⟩ | ⟨h1, h2⟩
    · refine ⟨fun _ => h1, fun _ => ?_⟩
      rw [h2]
      have e := numd_ren (θ := renT (renF fa b) (vrs (c :: ps))) (ρ := fun i => renF fa b ((vrs (c :: ps)).idxOf i)) (ts := c :: ps) renT_in (inj_idx fun x hx y hy => renF_inj mfa x (by rw [hV, len_intsTo] at hx; omega) y (by rw [hV, len_intsTo] at hy; omega))
      exact e.trans fixn
    · refine ⟨fun h => ?_, fun h => by rw [h] at h1; cases h1⟩
      rw [fixn] at h2
      exact absurd h h2
  have n1 : ∀ x ∈ c1 :: ps1, x.Nice ∧ x.depth ≤ 3 ∧ (∃ n vs, x = Tm.app n vs) ∧ VAtom x := fun x hx => by
    have hx2 := hx
    rw [en1] at hx2
    have h1 := numd_nice (fun x hx => (tn x hx).1) (by omega : Tm.sizes ((c :: ps).map (Tm.sub θ)) ≤ 100000) x hx2
    have h2 := numd_depth (fun x hx => (tn x hx).2) x hx2
    have h3 := numd_app (ts := (c :: ps).map (Tm.sub θ)) (fun x hx => by
      obtain ⟨y, hy, rfl⟩ := List.mem_map.mp hx
      exact sub_app (allN y hy).2.2.1) x hx2
    obtain ⟨y, hy, rfl⟩ := List.mem_map.mp hx2
    obtain ⟨y', hy', rfl⟩ := List.mem_map.mp hy
    exact ⟨h1, h2, h3, ((allN y' hy').2.2.2.ren hren).ren Ren.renT⟩
  have sz1 : Tm.sizes (c1 :: ps1) ≤ 65 := by
    have := numd_sizes ((c :: ps).map (Tm.sub θ))
    rw [en1]; omega
  have fix1 : numd (c1 :: ps1) = c1 :: ps1 := by rw [en1, numd_numd]
  have g0 := (ruleD_gd (txt_of_name hname) (fun x hx => ⟨(allN x hx).1, (allN x hx).2.1⟩) szN).good (by decide) (by decide)
  have g1 := (ruleD_gd (txt_of_name hname) (fun x hx => ⟨(n1 x hx).1, (n1 x hx).2.1⟩) sz1).good (by decide) (by decide)
  have U := w29.re
  have Ru29 : RuleAt H29 p name ps c := w29.rule (w24.rule Ru)
  have ep29 := w29.tup (w24.tup ep)
  clear k10 k11 k12 el1 el2 el12 el3 k1011 k1012 aa27 ep25 hl1 hl2 hl3 k28 w28 O28 k29 w27 w2829 R29 P29 g29 g29' hla
  have vr1 : VRule name ps1 c1 := by
    refine ⟨hname.is, by omega, fun x hx => (n1 x hx).2.2.2, ?_, ?_, fix1⟩
    · have : c1 = (c.sub θ).sub (renT (fun k => (k : Int)) (vrs ((c :: ps).map (Tm.sub θ)))) := by
        unfold numd at en1
        rw [List.map_cons, List.map_cons] at en1
        exact (List.cons.inj en1).1
      rw [this, (Ren.renT.same _).2.1, (hren.same c).2.1]
      exact cnm
    · rw [en1, len_vrs_numd]
      obtain ⟨g, hg⟩ : ∃ g : Int → Int, ∀ j, (Tm.var j).sub θ = .var (g j) := ⟨fun j => Classical.choose (hren.at' j), fun j => Classical.choose_spec (hren.at' j)⟩
      have h := nodup_len (vrs ((c :: ps).map (Tm.sub θ))) ((vrs (c :: ps)).map g) (vrs_nodup _) fun i hi => by
        have hi := mem_vrs.mp hi
        rw [← Tm.subs_map] at hi
        obtain ⟨j, hj, hi⟩ := Tm.intss_sub _ i hi
        refine List.mem_map.mpr ⟨j, mem_vrs.mpr hj, ?_⟩
        have e := hg j
        rw [Tm.sub_var] at e
        rw [e, Tm.ints_var] at hi
        exact (List.mem_singleton.mp hi).symm
      rw [List.length_map, hV, len_intsTo] at h
      omega
  walk_at "rd"
  refine d_cut (fun σ H' => ∃ u v, σ = [some (.ref a), some (.ref t), some (.ref sy), some (.ref re), some (.ref p), some (.ref lf), some (.int fa), some (.int b), some (.ref dl), x9, some (.bl mg'), x11, some (.ref p2), none, some (.ref la), some (.ref q1)] ∧ u = 0 ∧ v = 0 ∧ Kp [] H29 H') ?_ (fun σ H30 h30 => ?_)
  · walk_at "rd"
    refine d_slL ela (fun r hr2 => ?_)
    rw [cutV_drop _ _ (by decide)]
    have k1 : Kp [] H29 (upd H29 r (.lst ((y0 :: yr).drop (Int.toNat 1)))) := Kp.new hr2
    have er : (upd H29 r (.lst ((y0 :: yr).drop (Int.toNat 1)))) r = some (.lst yr) := upd_same
    generalize (upd H29 r (.lst ((y0 :: yr).drop (Int.toNat 1)))) = H30 at k1 er ⊢
    walk_at "rd"
    intro r3 hr3
    have k2 : Kp [] H30 (upd H30 r3 (.tup yr)) := Kp.new hr3
    have er3 : (upd H30 r3 (.tup yr)) r3 = some (.tup yr) := upd_same
    have k12 := k1.trans k2
    generalize (upd H30 r3 (.tup yr)) = H31 at k2 er3 k12 ⊢
    have ela31 := k12 _ _ (by simp) ela
    walk_at "rd"
    refine d_ixLc ela31 (v := y0) (atI_of (by decide) rfl) ?_
    walk_at "rd"
    refine ⟨smallN (show 3 ≤ 1000000 by decide), fun d hd => ?_⟩
    have k3 : Kp [] H31 (upd H31 d (.tup [.str name, .ref r3, y0])) := Kp.new hd
    have ed : (upd H31 d (.tup [.str name, .ref r3, y0])) d = some (.tup [.str name, .ref r3, y0]) := upd_same
    have k13 := k12.trans k3
    generalize (upd H31 d (.tup [.str name, .ref r3, y0])) = H32 at k3 ed k13 ⊢
    have a32 := ala.keep (k13.keepT (by simp))
    have D32 : RuleAt H32 d name ps1 c1 := ⟨r3, y0, yr, ed, k3 _ _ (by simp) er3, a32.head, a32.tail⟩
    walk_at "rd"
    refine d_alikeRule (T29.nil k13) D32 g1 (fun H33 k33 => ?_)
    have k33 := k13.trans k33
    refine ⟨true, rfl, iteF ?_⟩
    walk_at "rd"
    refine d_eqRule (T29.nil k33) (Ru29.nil k33) g1 g0 ?_
    have hdec : decide (name = name ∧ c1 :: ps1 = c :: ps) = !mg' := by
      rw [Bool.eq_iff_iff, decide_eq_true_iff]
      constructor
      · rintro ⟨_, h⟩; rw [fin1.mp h]; rfl
      · intro h
        refine ⟨rfl, fin1.mpr ?_⟩
        cases mg'
        · rfl
        · cases h
    rw [hdec]
    walk_at "rd"
    have hne : decide ((V.bl !mg') = V.bl mg') = false := by
      cases mg' <;> rfl
    rw [hne]
    refine iteF ?_
    walk_at "rd"
    exact ⟨0, 0, rfl, rfl, rfl, k33⟩
  obtain ⟨_, _, rfl, _, _, k30⟩ := h30
  walk_at "rd"
  have U30 := U.nil k30
  have T30 := T29.nil k30
  have lc : ps1.length ≤ 1000 := by omega
  refine d_cut (fun σ H' => ∃ u v, σ = [some (.ref a), some (.ref t), some (.ref sy), some (.ref re), some (.ref p), some (.ref lf), some (.int fa), some (.int b), some (.ref dl), x9, some (.bl mg'), x11, some (.ref p2), none, some (.ref la), some (.ref q1)] ∧ u = 0 ∧ v = 0 ∧ Wl H29 H' t sc ns [Pn, Pa, Pr, P1, P2]) ?_ (fun σ H31 h31 => ?_)
  · walk_at "rd"
    refine ⟨q1, name, ps1, c1, rfl, T30, lc, fun x hx => by have := (n1 x hx).2.1; omega, by omega, U30.n.tb P1 (by simp), U30.n.tb P2 (by simp), fun H31 q2 ps2 c2 k31 g31 g31' T31 en2 => ?_⟩
    obtain ⟨rfl, rfl⟩ := List.cons.inj (en2.trans fix1)
    have U31 := U30.tabs k31 (by simp) (fun P hP => by
      rcases List.mem_cons.mp hP with rfl | hP
      · exact g31
      · rw [List.mem_singleton.mp hP]; exact g31')
    walk_at "rd"
    refine d_alikeRule T31 (U31.rule T29) g1 (fun H32 k32 => ?_)
    have U32 := U31.nil k32
    refine ⟨true, rfl, iteF ?_⟩
    walk_at "rd"
    refine ⟨p, name, ps, c, rfl, U32.rule Ru29, by omega, fun x hx => by have := (allN x hx).2.1; omega, by omega, U32.n.tb P1 (by simp), U32.n.tb P2 (by simp), fun H33 q3 ps3 c3 k33 g33 g33' T33 en3 => ?_⟩
    obtain ⟨rfl, rfl⟩ := List.cons.inj (en3.trans fixn)
    have U33 := U32.tabs k33 (by simp) (fun P hP => by
      rcases List.mem_cons.mp hP with rfl | hP
      · exact g33
      · rw [List.mem_singleton.mp hP]; exact g33')
    walk_at "rd"
    refine d_alikeRule T33 (U33.rule Ru29) g0 (fun H34 k34 => ?_)
    refine ⟨true, rfl, iteF ?_⟩
    walk_at "rd"
    exact ⟨0, 0, rfl, rfl, rfl, U33.nil k34⟩
  obtain ⟨_, _, rfl, _, _, U31⟩ := h31
  walk_at "rd"
  refine ⟨q1, name, ps1, c1, rfl, U31.rule T29, txt_of_name hname, by omega, fun x hx => ⟨(n1 x hx).1, by have := (n1 x hx).2.1; omega, (n1 x hx).2.2.1⟩, by omega, U31.n.tb, fun H32 k32 g32 => ?_⟩
  have U32 := U31.tabs k32 (fun a h => h) g32
  rw [decide_eq_true vr1]
  walk_at "rd"
  refine ⟨true, rfl, true, rfl, iteT ?_⟩
  walk_at "rd"
  refine ⟨smallN (show 0 ≤ 1000000 by decide), fun r0 hr0 => ?_⟩
  have k1 : Kp [] H32 (upd H32 r0 (.tup [])) := Kp.new hr0
  have e1 : (upd H32 r0 (.tup [])) r0 = some (.tup []) := upd_same
  generalize (upd H32 r0 (.tup [])) = H33 at k1 e1 ⊢
  walk_at "rd"
  refine ⟨smallN (show 3 ≤ 1000000 by decide), fun q0 hq0 => ?_⟩
  have k2 : Kp [] H33 (upd H33 q0 (.tup [.str "=", .int 0, .int 0])) := Kp.new hq0
  have e2 : (upd H33 q0 (.tup [.str "=", .int 0, .int 0])) q0 = some (.tup [.str "=", .int 0, .int 0]) := upd_same
  generalize (upd H33 q0 (.tup [.str "=", .int 0, .int 0])) = H34 at k2 e2 ⊢
  walk_at "rd"
  refine ⟨smallN (show 3 ≤ 1000000 by decide), fun o0 ho0 => ?_⟩
  have k3 : Kp [] H34 (upd H34 o0 (.tup [.str "refl", .ref r0, .ref q0])) := Kp.new ho0
  have e3 : (upd H34 o0 (.tup [.str "refl", .ref r0, .ref q0])) o0 = some (.tup [.str "refl", .ref r0, .ref q0]) := upd_same
  have k23 := k2.trans k3
  generalize (upd H34 o0 (.tup [.str "refl", .ref r0, .ref q0])) = H35 at k3 e3 k23 ⊢
  walk_at "rd"
  have e15 := k23 _ _ (by simp) e1
  have e25 := k3 _ _ (by simp) e2
  have RR : RuleAt H35 o0 "refl" [] (.app "=" [.var 0, .var 0]) := ⟨r0, .ref q0, [], e3, e15, .of (vs := [.int 0, .int 0]) e25 (.cons (.var 0) (.cons (.var 0) .nil)), .nil⟩
  exact ⟨rf, _, _, of, rfl, lkf, cof, dpf _, RR.dp, refl_good, ⟨_, _, rfl, e3⟩, fun H36 _ => q H36⟩

theorem all_mk {l : PySem.W.OpenLaw} {w : World} {K : PySem.W.Frag} {h : Heap} {mg : Str → Option Value} {fa : Addr} (X : K.In h) (G : h.Ns PySem.mainGlobals mg) (hfa : mg "law" = some (.ref fa))
    {f0 : Addr} {od0 an0 : Option Addr} {sl0 : Array (Option Value)} {oc0 kV0 dc0 pm0 ct0 : Value} {c0 P0 : Addr}
    (a0 : PySem.W.nsIn K PySem.mainGlobals "is_name" = some (some (.ref f0)))
    (l0 : K.lookup f0 = some ⟨oc0, od0, .func (PySem.W.fnOf "is_name" "is_name" (defArgs s_is_name) (defBody s_is_name) (defScope s_is_name) .none kV0 dc0 pm0 an0 (.ref c0) ct0), sl0⟩)
    (c_0 : PySem.W.codeIn K (.ref c0) "is_name" = true) (k0 : PySem.W.keepIn K (.ref f0) = true)
    (h0 : PySem.W.codeHdIn K c0 P0 = true) (o0 : K.lookup P0 = none)
    {f1 : Addr} {od1 an1 : Option Addr} {sl1 : Array (Option Value)} {oc1 kV1 dc1 pm1 ct1 : Value} {c1 P1 : Addr}
    (a1 : PySem.W.nsIn K PySem.mainGlobals "is_valid_atom" = some (some (.ref f1)))
    (l1 : K.lookup f1 = some ⟨oc1, od1, .func (PySem.W.fnOf "is_valid_atom" "is_valid_atom" (defArgs s_is_valid_atom) (defBody s_is_valid_atom) (defScope s_is_valid_atom) .none kV1 dc1 pm1 an1 (.ref c1) ct1), sl1⟩)
    (c_1 : PySem.W.codeIn K (.ref c1) "is_valid_atom" = true) (k1 : PySem.W.keepIn K (.ref f1) = true)
    (h1 : PySem.W.codeHdIn K c1 P1 = true) (o1 : K.lookup P1 = none)
    {f2 : Addr} {od2 an2 : Option Addr} {sl2 : Array (Option Value)} {oc2 kV2 dc2 pm2 ct2 : Value} {c2 P2 : Addr}
    (a2 : PySem.W.nsIn K PySem.mainGlobals "is_valid_rule" = some (some (.ref f2)))
    (l2 : K.lookup f2 = some ⟨oc2, od2, .func (PySem.W.fnOf "is_valid_rule" "is_valid_rule" (defArgs s_is_valid_rule) (defBody s_is_valid_rule) (defScope s_is_valid_rule) .none kV2 dc2 pm2 an2 (.ref c2) ct2), sl2⟩)
    (c_2 : PySem.W.codeIn K (.ref c2) "is_valid_rule" = true) (k2 : PySem.W.keepIn K (.ref f2) = true)
    (h2 : PySem.W.codeHdIn K c2 P2 = true) (o2 : K.lookup P2 = none)
    {f3 : Addr} {od3 an3 : Option Addr} {sl3 : Array (Option Value)} {oc3 kV3 dc3 pm3 ct3 : Value} {c3 P3 : Addr}
    (a3 : PySem.W.nsIn K PySem.mainGlobals "instance_of" = some (some (.ref f3)))
    (l3 : K.lookup f3 = some ⟨oc3, od3, .func (PySem.W.fnOf "instance_of" "instance_of" (defArgs s_inst) (defBody s_inst) (defScope s_inst) .none kV3 dc3 pm3 an3 (.ref c3) ct3), sl3⟩)
    (c_3 : PySem.W.codeIn K (.ref c3) "instance_of" = true) (k3 : PySem.W.keepIn K (.ref f3) = true)
    (h3 : PySem.W.codeHdIn K c3 P3 = true) (o3 : K.lookup P3 = none)
    {f4 : Addr} {od4 an4 : Option Addr} {sl4 : Array (Option Value)} {oc4 kV4 dc4 pm4 ct4 : Value} {c4 P4 : Addr}
    (a4 : PySem.W.nsIn K PySem.mainGlobals "numbered" = some (some (.ref f4)))
    (l4 : K.lookup f4 = some ⟨oc4, od4, .func (PySem.W.fnOf "numbered" "numbered" (defArgs s_numbered) (defBody s_numbered) (defScope s_numbered) .none kV4 dc4 pm4 an4 (.ref c4) ct4), sl4⟩)
    (c_4 : PySem.W.codeIn K (.ref c4) "numbered" = true) (k4 : PySem.W.keepIn K (.ref f4) = true)
    (h4 : PySem.W.codeHdIn K c4 P4 = true) (o4 : K.lookup P4 = none)
    {f5 : Addr} {od5 an5 : Option Addr} {sl5 : Array (Option Value)} {oc5 kV5 dc5 pm5 ct5 : Value} {cd5 : Value}
    (a5 : PySem.W.nsIn K PySem.mainGlobals "_law_tape" = some (some (.ref f5)))
    (l5 : K.lookup f5 = some ⟨oc5, od5, .func (PySem.W.fnOf "_law_tape" "_law_tape" (defArgs s_tape) (defBody s_tape) (defScope s_tape) .none kV5 dc5 pm5 an5 cd5 ct5), sl5⟩)
    (c_5 : PySem.W.codeIn K cd5 "_law_tape" = true) (k5 : PySem.W.keepIn K (.ref f5) = true)
    {f6 : Addr} {od6 an6 : Option Addr} {sl6 : Array (Option Value)} {oc6 kV6 dc6 pm6 ct6 : Value} {cd6 : Value}
    (a6 : PySem.W.nsIn K PySem.mainGlobals "_law_draw" = some (some (.ref f6)))
    (l6 : K.lookup f6 = some ⟨oc6, od6, .func (PySem.W.fnOf "_law_draw" "_law_draw" (defArgs s_draw) (defBody s_draw) (defScope s_draw) .none kV6 dc6 pm6 an6 cd6 ct6), sl6⟩)
    (c_6 : PySem.W.codeIn K cd6 "_law_draw" = true) (k6 : PySem.W.keepIn K (.ref f6) = true)
    {f7 : Addr} {od7 an7 : Option Addr} {sl7 : Array (Option Value)} {oc7 kV7 dc7 pm7 ct7 : Value} {cd7 : Value}
    (a7 : PySem.W.nsIn K PySem.mainGlobals "_law_word" = some (some (.ref f7)))
    (l7 : K.lookup f7 = some ⟨oc7, od7, .func (PySem.W.fnOf "_law_word" "_law_word" (defArgs s_word) (defBody s_word) (defScope s_word) .none kV7 dc7 pm7 an7 cd7 ct7), sl7⟩)
    (c_7 : PySem.W.codeIn K cd7 "_law_word" = true) (k7 : PySem.W.keepIn K (.ref f7) = true)
    {f8 : Addr} {od8 an8 : Option Addr} {sl8 : Array (Option Value)} {oc8 kV8 dc8 pm8 ct8 : Value} {cd8 : Value}
    (a8 : PySem.W.nsIn K PySem.mainGlobals "_law_symbols" = some (some (.ref f8)))
    (l8 : K.lookup f8 = some ⟨oc8, od8, .func (PySem.W.fnOf "_law_symbols" "_law_symbols" (defArgs s_symbols) (defBody s_symbols) (defScope s_symbols) .none kV8 dc8 pm8 an8 cd8 ct8), sl8⟩)
    (c_8 : PySem.W.codeIn K cd8 "_law_symbols" = true) (k8 : PySem.W.keepIn K (.ref f8) = true)
    {f9 : Addr} {od9 an9 : Option Addr} {sl9 : Array (Option Value)} {oc9 kV9 dc9 pm9 ct9 : Value} {cd9 : Value}
    (a9 : PySem.W.nsIn K PySem.mainGlobals "_law_term" = some (some (.ref f9)))
    (l9 : K.lookup f9 = some ⟨oc9, od9, .func (PySem.W.fnOf "_law_term" "_law_term" (defArgs s_term) (defBody s_term) (defScope s_term) .none kV9 dc9 pm9 an9 cd9 ct9), sl9⟩)
    (c_9 : PySem.W.codeIn K cd9 "_law_term" = true) (k9 : PySem.W.keepIn K (.ref f9) = true)
    {f10 : Addr} {od10 an10 : Option Addr} {sl10 : Array (Option Value)} {oc10 kV10 dc10 pm10 ct10 : Value} {cd10 : Value}
    (a10 : PySem.W.nsIn K PySem.mainGlobals "_law_replaced" = some (some (.ref f10)))
    (l10 : K.lookup f10 = some ⟨oc10, od10, .func (PySem.W.fnOf "_law_replaced" "_law_replaced" (defArgs s_repl) (defBody s_repl) (defScope s_repl) .none kV10 dc10 pm10 an10 cd10 ct10), sl10⟩)
    (c_10 : PySem.W.codeIn K cd10 "_law_replaced" = true) (k10 : PySem.W.keepIn K (.ref f10) = true)
    {f11 : Addr} {od11 an11 : Option Addr} {sl11 : Array (Option Value)} {oc11 kV11 dc11 pm11 ct11 : Value} {cd11 : Value}
    (a11 : PySem.W.nsIn K PySem.mainGlobals "_law_collect" = some (some (.ref f11)))
    (l11 : K.lookup f11 = some ⟨oc11, od11, .func (PySem.W.fnOf "_law_collect" "_law_collect" (defArgs s_collect) (defBody s_collect) (defScope s_collect) .none kV11 dc11 pm11 an11 cd11 ct11), sl11⟩)
    (c_11 : PySem.W.codeIn K cd11 "_law_collect" = true) (k11 : PySem.W.keepIn K (.ref f11) = true)
    {f12 : Addr} {od12 an12 : Option Addr} {sl12 : Array (Option Value)} {oc12 kV12 dc12 pm12 ct12 : Value} {cd12 : Value}
    (a12 : PySem.W.nsIn K PySem.mainGlobals "_law_variables" = some (some (.ref f12)))
    (l12 : K.lookup f12 = some ⟨oc12, od12, .func (PySem.W.fnOf "_law_variables" "_law_variables" (defArgs s_lvars) (defBody s_lvars) (defScope s_lvars) .none kV12 dc12 pm12 an12 cd12 ct12), sl12⟩)
    (c_12 : PySem.W.codeIn K cd12 "_law_variables" = true) (k12 : PySem.W.keepIn K (.ref f12) = true)
    {f13 : Addr} {od13 an13 : Option Addr} {sl13 : Array (Option Value)} {oc13 kV13 dc13 pm13 ct13 : Value} {cd13 : Value}
    (a13 : PySem.W.nsIn K PySem.mainGlobals "_law_numbered" = some (some (.ref f13)))
    (l13 : K.lookup f13 = some ⟨oc13, od13, .func (PySem.W.fnOf "_law_numbered" "_law_numbered" (defArgs s_lnumbered) (defBody s_lnumbered) (defScope s_lnumbered) .none kV13 dc13 pm13 an13 cd13 ct13), sl13⟩)
    (c_13 : PySem.W.codeIn K cd13 "_law_numbered" = true) (k13 : PySem.W.keepIn K (.ref f13) = true)
    {f14 : Addr} {od14 an14 : Option Addr} {sl14 : Array (Option Value)} {oc14 kV14 dc14 pm14 ct14 : Value} {cd14 : Value}
    (a14 : PySem.W.nsIn K PySem.mainGlobals "_law_alike" = some (some (.ref f14)))
    (l14 : K.lookup f14 = some ⟨oc14, od14, .func (PySem.W.fnOf "_law_alike" "_law_alike" (defArgs s_alike) (defBody s_alike) (defScope s_alike) .none kV14 dc14 pm14 an14 cd14 ct14), sl14⟩)
    (c_14 : PySem.W.codeIn K cd14 "_law_alike" = true) (k14 : PySem.W.keepIn K (.ref f14) = true)
    {f15 : Addr} {od15 an15 : Option Addr} {sl15 : Array (Option Value)} {oc15 kV15 dc15 pm15 ct15 : Value} {cd15 : Value}
    (a15 : PySem.W.nsIn K PySem.mainGlobals "_law_atom" = some (some (.ref f15)))
    (l15 : K.lookup f15 = some ⟨oc15, od15, .func (PySem.W.fnOf "_law_atom" "_law_atom" (defArgs s_atom) (defBody s_atom) (defScope s_atom) .none kV15 dc15 pm15 an15 cd15 ct15), sl15⟩)
    (c_15 : PySem.W.codeIn K cd15 "_law_atom" = true) (k15 : PySem.W.keepIn K (.ref f15) = true)
    {f16 : Addr} {od16 an16 : Option Addr} {sl16 : Array (Option Value)} {oc16 kV16 dc16 pm16 ct16 : Value} {cd16 : Value}
    (a16 : PySem.W.nsIn K PySem.mainGlobals "_law_relations" = some (some (.ref f16)))
    (l16 : K.lookup f16 = some ⟨oc16, od16, .func (PySem.W.fnOf "_law_relations" "_law_relations" (defArgs s_relations) (defBody s_relations) (defScope s_relations) .none kV16 dc16 pm16 an16 cd16 ct16), sl16⟩)
    (c_16 : PySem.W.codeIn K cd16 "_law_relations" = true) (k16 : PySem.W.keepIn K (.ref f16) = true)
    {f17 : Addr} {od17 an17 : Option Addr} {sl17 : Array (Option Value)} {oc17 kV17 dc17 pm17 ct17 : Value} {cd17 : Value}
    (a17 : PySem.W.nsIn K PySem.mainGlobals "_law_rule_over" = some (some (.ref f17)))
    (l17 : K.lookup f17 = some ⟨oc17, od17, .func (PySem.W.fnOf "_law_rule_over" "_law_rule_over" (defArgs s_ruleover) (defBody s_ruleover) (defScope s_ruleover) .none kV17 dc17 pm17 an17 cd17 ct17), sl17⟩)
    (c_17 : PySem.W.codeIn K cd17 "_law_rule_over" = true) (k17 : PySem.W.keepIn K (.ref f17) = true)
    {f18 : Addr} {od18 an18 : Option Addr} {sl18 : Array (Option Value)} {oc18 kV18 dc18 pm18 ct18 : Value} {cd18 : Value}
    (a18 : PySem.W.nsIn K PySem.mainGlobals "_law_rule" = some (some (.ref f18)))
    (l18 : K.lookup f18 = some ⟨oc18, od18, .func (PySem.W.fnOf "_law_rule" "_law_rule" (defArgs s_lrule) (defBody s_lrule) (defScope s_lrule) .none kV18 dc18 pm18 an18 cd18 ct18), sl18⟩)
    (c_18 : PySem.W.codeIn K cd18 "_law_rule" = true) (k18 : PySem.W.keepIn K (.ref f18) = true)
    {f19 : Addr} {od19 an19 : Option Addr} {sl19 : Array (Option Value)} {oc19 kV19 dc19 pm19 ct19 : Value} {cd19 : Value}
    (a19 : PySem.W.nsIn K PySem.mainGlobals "occurrences_in" = some (some (.ref f19)))
    (l19 : K.lookup f19 = some ⟨oc19, od19, .func (PySem.W.fnOf "occurrences_in" "occurrences_in" (defArgs s_occ) (defBody s_occ) (defScope s_occ) .none kV19 dc19 pm19 an19 cd19 ct19), sl19⟩)
    (c_19 : PySem.W.codeIn K cd19 "occurrences_in" = true) (k19 : PySem.W.keepIn K (.ref f19) = true)
    {f20 : Addr} {od20 an20 : Option Addr} {sl20 : Array (Option Value)} {oc20 kV20 dc20 pm20 ct20 : Value} {cd20 : Value}
    (a20 : PySem.W.nsIn K PySem.mainGlobals "depth_of" = some (some (.ref f20)))
    (l20 : K.lookup f20 = some ⟨oc20, od20, .func (PySem.W.fnOf "depth_of" "depth_of" (defArgs s_depth_of) (defBody s_depth_of) (defScope s_depth_of) .none kV20 dc20 pm20 an20 cd20 ct20), sl20⟩)
    (c_20 : PySem.W.codeIn K cd20 "depth_of" = true) (k20 : PySem.W.keepIn K (.ref f20) = true)
    {f21 : Addr} {od21 an21 : Option Addr} {sl21 : Array (Option Value)} {oc21 kV21 dc21 pm21 ct21 : Value} {cd21 : Value}
    (a21 : PySem.W.nsIn K PySem.mainGlobals "variables_of" = some (some (.ref f21)))
    (l21 : K.lookup f21 = some ⟨oc21, od21, .func (PySem.W.fnOf "variables_of" "variables_of" (defArgs s_vars) (defBody s_vars) (defScope s_vars) .none kV21 dc21 pm21 an21 cd21 ct21), sl21⟩)
    (c_21 : PySem.W.codeIn K cd21 "variables_of" = true) (k21 : PySem.W.keepIn K (.ref f21) = true)
    {f22 : Addr} {od22 an22 : Option Addr} {sl22 : Array (Option Value)} {oc22 kV22 dc22 pm22 ct22 : Value} {cd22 : Value}
    (a22 : PySem.W.nsIn K PySem.mainGlobals "atoms_of_rule" = some (some (.ref f22)))
    (l22 : K.lookup f22 = some ⟨oc22, od22, .func (PySem.W.fnOf "atoms_of_rule" "atoms_of_rule" (defArgs s_aor) (defBody s_aor) (defScope s_aor) .none kV22 dc22 pm22 an22 cd22 ct22), sl22⟩)
    (c_22 : PySem.W.codeIn K cd22 "atoms_of_rule" = true) (k22 : PySem.W.keepIn K (.ref f22) = true)
    {f23 : Addr} {od23 an23 : Option Addr} {sl23 : Array (Option Value)} {oc23 kV23 dc23 pm23 ct23 : Value} {cd23 : Value}
    (a23 : PySem.W.nsIn K PySem.mainGlobals "variables_of_rule" = some (some (.ref f23)))
    (l23 : K.lookup f23 = some ⟨oc23, od23, .func (PySem.W.fnOf "variables_of_rule" "variables_of_rule" (defArgs s_vor) (defBody s_vor) (defScope s_vor) .none kV23 dc23 pm23 an23 cd23 ct23), sl23⟩)
    (c_23 : PySem.W.codeIn K cd23 "variables_of_rule" = true) (k23 : PySem.W.keepIn K (.ref f23) = true)
    {f24 : Addr} {od24 an24 : Option Addr} {sl24 : Array (Option Value)} {oc24 kV24 dc24 pm24 ct24 : Value} {cd24 : Value}
    (a24 : PySem.W.nsIn K PySem.mainGlobals "is_equation" = some (some (.ref f24)))
    (l24 : K.lookup f24 = some ⟨oc24, od24, .func (PySem.W.fnOf "is_equation" "is_equation" (defArgs s_is_equation) (defBody s_is_equation) (defScope s_is_equation) .none kV24 dc24 pm24 an24 cd24 ct24), sl24⟩)
    (c_24 : PySem.W.codeIn K cd24 "is_equation" = true) (k24 : PySem.W.keepIn K (.ref f24) = true)
    {f25 : Addr} {od25 an25 : Option Addr} {sl25 : Array (Option Value)} {oc25 kV25 dc25 pm25 ct25 : Value} {cd25 : Value}
    (a25 : PySem.W.nsIn K PySem.mainGlobals "is_small" = some (some (.ref f25)))
    (l25 : K.lookup f25 = some ⟨oc25, od25, .func (PySem.W.fnOf "is_small" "is_small" (defArgs s_is_small) (defBody s_is_small) (defScope s_is_small) .none kV25 dc25 pm25 an25 cd25 ct25), sl25⟩)
    (c_25 : PySem.W.codeIn K cd25 "is_small" = true) (k25 : PySem.W.keepIn K (.ref f25) = true)
    {f26 : Addr} {od26 an26 : Option Addr} {sl26 : Array (Option Value)} {oc26 kV26 dc26 pm26 ct26 : Value} {cd26 : Value}
    (a26 : PySem.W.nsIn K PySem.mainGlobals "numbered_rule" = some (some (.ref f26)))
    (l26 : K.lookup f26 = some ⟨oc26, od26, .func (PySem.W.fnOf "numbered_rule" "numbered_rule" (defArgs s_numbered_rule) (defBody s_numbered_rule) (defScope s_numbered_rule) .none kV26 dc26 pm26 an26 cd26 ct26), sl26⟩)
    (c_26 : PySem.W.codeIn K cd26 "numbered_rule" = true) (k26 : PySem.W.keepIn K (.ref f26) = true)
    {f27 : Addr} {od27 an27 : Option Addr} {sl27 : Array (Option Value)} {oc27 kV27 dc27 pm27 ct27 : Value} {cd27 : Value}
    (a27 : PySem.W.nsIn K PySem.mainGlobals "law" = some (some (.ref f27)))
    (l27 : K.lookup f27 = some ⟨oc27, od27, .func (PySem.W.fnOf "law" "law" (defArgs s_law) (defBody s_law) (defScope s_law) .none kV27 dc27 pm27 an27 cd27 ct27), sl27⟩)
    (c_27 : PySem.W.codeIn K cd27 "law" = true) (k27 : PySem.W.keepIn K (.ref f27) = true)
    (y_int : PySem.W.nsIn K PySem.mainGlobals "int" = some none)
    (y_abs : PySem.W.nsIn K PySem.mainGlobals "abs" = some none)
    (y_list : PySem.W.nsIn K PySem.mainGlobals "list" = some none)
    (y_len : PySem.W.nsIn K PySem.mainGlobals "len" = some none)
    (y_max : PySem.W.nsIn K PySem.mainGlobals "max" = some none)
    (y_range : PySem.W.nsIn K PySem.mainGlobals "range" = some none)
    (y_tuple : PySem.W.nsIn K PySem.mainGlobals "tuple" = some none)
    (y_isinstance : PySem.W.nsIn K PySem.mainGlobals "isinstance" = some none)
    (y_repr : PySem.W.nsIn K PySem.mainGlobals "repr" = some none)
    (y_enumerate : PySem.W.nsIn K PySem.mainGlobals "enumerate" = some none)
    (y_all : PySem.W.nsIn K PySem.mainGlobals "all" = some none)
    {tk_MOST_SIGNS : Tok} (g_MOST_SIGNS : PySem.W.nsIn K PySem.mainGlobals "MOST_SIGNS" = some (some (.int 16 tk_MOST_SIGNS)))
    {tk_SMALL_LETTERS : Tok} (g_SMALL_LETTERS : PySem.W.nsIn K PySem.mainGlobals "SMALL_LETTERS" = some (some (.str "abcdefghijklmnopqrstuvwxyz" tk_SMALL_LETTERS)))
    {tk_NAME_SIGNS : Tok} (g_NAME_SIGNS : PySem.W.nsIn K PySem.mainGlobals "NAME_SIGNS" = some (some (.str "abcdefghijklmnopqrstuvwxyzABCDEFGHIJKLMNOPQRSTUVWXYZ0123456789" tk_NAME_SIGNS)))
    {tk_MOST_SIZE : Tok} (g_MOST_SIZE : PySem.W.nsIn K PySem.mainGlobals "MOST_SIZE" = some (some (.int 60 tk_MOST_SIZE)))
    {tk_MOST_DEPTH : Tok} (g_MOST_DEPTH : PySem.W.nsIn K PySem.mainGlobals "MOST_DEPTH" = some (some (.int 12 tk_MOST_DEPTH)))
    {tk_MOST_ARGUMENTS : Tok} (g_MOST_ARGUMENTS : PySem.W.nsIn K PySem.mainGlobals "MOST_ARGUMENTS" = some (some (.int 8 tk_MOST_ARGUMENTS)))
    {tk_MOST_PREMISES : Tok} (g_MOST_PREMISES : PySem.W.nsIn K PySem.mainGlobals "MOST_PREMISES" = some (some (.int 4 tk_MOST_PREMISES)))
    {tk_MOST_VARIABLES : Tok} (g_MOST_VARIABLES : PySem.W.nsIn K PySem.mainGlobals "MOST_VARIABLES" = some (some (.int 12 tk_MOST_VARIABLES)))
    {rf re rq : Addr} {rt0 rt1 rt2 rt3 : Tok} {rn0 rn1 rn2 : Nat} {rd0 rd1 rd2 : Option Addr} {rs0 rs1 rs2 : Array (Option Value)}
    (gR : PySem.W.nsIn K PySem.mainGlobals "REFL" = some (some (.ref rf)))
    (gR0 : K.lookup rf = some ⟨.type "tuple", rd0, .seq #[.str "refl" rt0, .ref re, .ref rq] rn0, rs0⟩)
    (gR1 : K.lookup re = some ⟨.type "tuple", rd1, .seq #[] rn1, rs1⟩)
    (gR2 : K.lookup rq = some ⟨.type "tuple", rd2, .seq #[.str "=" rt1, .int 0 rt2, .int 0 rt3] rn2, rs2⟩)
    (hd0 : P0 ≠ P1)
    (hd1 : P0 ≠ P2)
    (hd2 : P0 ≠ P3)
    (hd3 : P0 ≠ P4)
    (hd4 : P1 ≠ P2)
    (hd5 : P1 ≠ P3)
    (hd6 : P1 ≠ P4)
    (hd7 : P2 ≠ P3)
    (hd8 : P2 ≠ P4)
    (hd9 : P3 ≠ P4)
    (hd10 : P4 ≠ P3)
    : ∃ (fd : FuncData) (ct : List (Addr × Addr)), ct.map (·.2) = [P0, P1, P2, P3, P4] ∧ (∀ (s : Shared) (v : Value), BindsTo s fd ⟨[v], []⟩ [("script", v)]) ∧ (∀ p ∈ ct, ∃ y ∈ [("is_name" : Str), ("is_valid_atom" : Str), ("is_valid_rule" : Str), ("instance_of" : Str), ("numbered" : Str)], TabIn K mg y p.1 p.2) ∧
      ∀ base : Heap, K.In base → base.Ns PySem.mainGlobals mg → (∀ p ∈ ct, GxR.TabB base mg p.1 p.2) → FnG l.prog w K mg base 171 fa fd ["script"] (spLawT K [P0, P1, P2, P3, P4]) := by
  have e := hfa.symm.trans (PySem.W.mg_of X G a27)
  cases e
  have Dis_name : DfT K mg "is_name" s_is_name ["text"] c0 := dft_mk X G a0 l0 c_0 k0 fun _ _ _ _ _ _ us hl => match us, hl with | [_], _ => rfl
  have Dis_valid_atom : DfT K mg "is_valid_atom" s_is_valid_atom ["atom"] c1 := dft_mk X G a1 l1 c_1 k1 fun _ _ _ _ _ _ us hl => match us, hl with | [_], _ => rfl
  have Dis_valid_rule : DfT K mg "is_valid_rule" s_is_valid_rule ["rule"] c2 := dft_mk X G a2 l2 c_2 k2 fun _ _ _ _ _ _ us hl => match us, hl with | [_], _ => rfl
  have Dinstance_of : DfT K mg "instance_of" s_inst ["term", "table"] c3 := dft_mk X G a3 l3 c_3 k3 fun _ _ _ _ _ _ us hl => match us, hl with | [_, _], _ => rfl
  have Dnumbered : DfT K mg "numbered" s_numbered ["terms"] c4 := dft_mk X G a4 l4 c_4 k4 fun _ _ _ _ _ _ us hl => match us, hl with | [_], _ => rfl
  have D_law_tape : Df K mg "_law_tape" s_tape ["script"] := df_mk X G a5 l5 c_5 k5 fun _ _ _ _ _ _ us hl => match us, hl with | [_], _ => rfl
  have D_law_draw : Df K mg "_law_draw" s_draw ["tape", "many"] := df_mk X G a6 l6 c_6 k6 fun _ _ _ _ _ _ us hl => match us, hl with | [_, _], _ => rfl
  have D_law_word : Df K mg "_law_word" s_word ["tape", "stem"] := df_mk X G a7 l7 c_7 k7 fun _ _ _ _ _ _ us hl => match us, hl with | [_, _], _ => rfl
  have D_law_symbols : Df K mg "_law_symbols" s_symbols ["tape", "many"] := df_mk X G a8 l8 c_8 k8 fun _ _ _ _ _ _ us hl => match us, hl with | [_, _], _ => rfl
  have D_law_term : Df K mg "_law_term" s_term ["tape", "symbols", "variables", "depth"] := df_mk X G a9 l9 c_9 k9 fun _ _ _ _ _ _ us hl => match us, hl with | [_, _, _, _], _ => rfl
  have D_law_replaced : Df K mg "_law_replaced" s_repl ["term", "table"] := df_mk X G a10 l10 c_10 k10 fun _ _ _ _ _ _ us hl => match us, hl with | [_, _], _ => rfl
  have D_law_collect : Df K mg "_law_collect" s_collect ["term", "found"] := df_mk X G a11 l11 c_11 k11 fun _ _ _ _ _ _ us hl => match us, hl with | [_, _], _ => rfl
  have D_law_variables : Df K mg "_law_variables" s_lvars ["terms"] := df_mk X G a12 l12 c_12 k12 fun _ _ _ _ _ _ us hl => match us, hl with | [_], _ => rfl
  have D_law_numbered : Df K mg "_law_numbered" s_lnumbered ["terms"] := df_mk X G a13 l13 c_13 k13 fun _ _ _ _ _ _ us hl => match us, hl with | [_], _ => rfl
  have D_law_alike : Df K mg "_law_alike" s_alike ["told", "due"] := df_mk X G a14 l14 c_14 k14 fun _ _ _ _ _ _ us hl => match us, hl with | [_, _], _ => rfl
  have D_law_atom : Df K mg "_law_atom" s_atom ["tape", "relations", "symbols", "variables", "depth"] := df_mk X G a15 l15 c_15 k15 fun _ _ _ _ _ _ us hl => match us, hl with | [_, _, _, _, _], _ => rfl
  have D_law_relations : Df K mg "_law_relations" s_relations ["tape", "many"] := df_mk X G a16 l16 c_16 k16 fun _ _ _ _ _ _ us hl => match us, hl with | [_, _], _ => rfl
  have D_law_rule_over : Df K mg "_law_rule_over" s_ruleover ["tape", "name", "heads", "bodies", "symbols", "many", "premises"] := df_mk X G a17 l17 c_17 k17 fun _ _ _ _ _ _ us hl => match us, hl with | [_, _, _, _, _, _, _], _ => rfl
  have D_law_rule : Df K mg "_law_rule" s_lrule ["tape", "name", "relations", "symbols", "many", "premises"] := df_mk X G a18 l18 c_18 k18 fun _ _ _ _ _ _ us hl => match us, hl with | [_, _, _, _, _, _], _ => rfl
  have Doccurrences_in : Df K mg "occurrences_in" s_occ ["term"] := df_mk X G a19 l19 c_19 k19 fun _ _ _ _ _ _ us hl => match us, hl with | [_], _ => rfl
  have Ddepth_of : Df K mg "depth_of" s_depth_of ["term"] := df_mk X G a20 l20 c_20 k20 fun _ _ _ _ _ _ us hl => match us, hl with | [_], _ => rfl
  have Dvariables_of : Df K mg "variables_of" s_vars ["terms"] := df_mk X G a21 l21 c_21 k21 fun _ _ _ _ _ _ us hl => match us, hl with | [_], _ => rfl
  have Datoms_of_rule : Df K mg "atoms_of_rule" s_aor ["rule"] := df_mk X G a22 l22 c_22 k22 fun _ _ _ _ _ _ us hl => match us, hl with | [_], _ => rfl
  have Dvariables_of_rule : Df K mg "variables_of_rule" s_vor ["rule"] := df_mk X G a23 l23 c_23 k23 fun _ _ _ _ _ _ us hl => match us, hl with | [_], _ => rfl
  have Dis_equation : Df K mg "is_equation" s_is_equation ["atom"] := df_mk X G a24 l24 c_24 k24 fun _ _ _ _ _ _ us hl => match us, hl with | [_], _ => rfl
  have Dis_small : Df K mg "is_small" s_is_small ["size", "depth"] := df_mk X G a25 l25 c_25 k25 fun _ _ _ _ _ _ us hl => match us, hl with | [_, _], _ => rfl
  have Dnumbered_rule : Df K mg "numbered_rule" s_numbered_rule ["rule"] := df_mk X G a26 l26 c_26 k26 fun _ _ _ _ _ _ us hl => match us, hl with | [_], _ => rfl
  have Flaw := fun_mk (st := s_law) l27 c_27 k27
  have z_int := PySem.W.mg_none_of X G y_int
  have z_abs := PySem.W.mg_none_of X G y_abs
  have z_list := PySem.W.mg_none_of X G y_list
  have z_len := PySem.W.mg_none_of X G y_len
  have z_max := PySem.W.mg_none_of X G y_max
  have z_range := PySem.W.mg_none_of X G y_range
  have z_tuple := PySem.W.mg_none_of X G y_tuple
  have z_isinstance := PySem.W.mg_none_of X G y_isinstance
  have z_repr := PySem.W.mg_none_of X G y_repr
  have z_enumerate := PySem.W.mg_none_of X G y_enumerate
  have z_all := PySem.W.mg_none_of X G y_all
  have G_MOST_SIGNS : Glo mg "MOST_SIGNS" (.int 16) := ⟨_, PySem.W.mg_of X G g_MOST_SIGNS, ⟨_, rfl⟩⟩
  have G_SMALL_LETTERS : Glo mg "SMALL_LETTERS" (.str "abcdefghijklmnopqrstuvwxyz") := ⟨_, PySem.W.mg_of X G g_SMALL_LETTERS, ⟨_, rfl⟩⟩
  have G_NAME_SIGNS : Glo mg "NAME_SIGNS" (.str "abcdefghijklmnopqrstuvwxyzABCDEFGHIJKLMNOPQRSTUVWXYZ0123456789") := ⟨_, PySem.W.mg_of X G g_NAME_SIGNS, ⟨_, rfl⟩⟩
  have G_MOST_SIZE : Glo mg "MOST_SIZE" (.int 60) := ⟨_, PySem.W.mg_of X G g_MOST_SIZE, ⟨_, rfl⟩⟩
  have G_MOST_DEPTH : Glo mg "MOST_DEPTH" (.int 12) := ⟨_, PySem.W.mg_of X G g_MOST_DEPTH, ⟨_, rfl⟩⟩
  have G_MOST_ARGUMENTS : Glo mg "MOST_ARGUMENTS" (.int 8) := ⟨_, PySem.W.mg_of X G g_MOST_ARGUMENTS, ⟨_, rfl⟩⟩
  have G_MOST_PREMISES : Glo mg "MOST_PREMISES" (.int 4) := ⟨_, PySem.W.mg_of X G g_MOST_PREMISES, ⟨_, rfl⟩⟩
  have G_MOST_VARIABLES : Glo mg "MOST_VARIABLES" (.int 12) := ⟨_, PySem.W.mg_of X G g_MOST_VARIABLES, ⟨_, rfl⟩⟩
  refine ⟨PySem.W.fnOf "law" "law" (defArgs s_law) (defBody s_law) (defScope s_law) .none kV27 dc27 pm27 an27 cd27 ct27, [(c0, P0), (c1, P1), (c2, P2), (c3, P3), (c4, P4)], rfl, fun s v => .of_eq rfl, fun p hp => ?_, fun base _ _ TB => ?_⟩
  · simp only [List.mem_cons, List.not_mem_nil, or_false] at hp
    rcases hp with rfl | rfl | rfl | rfl | rfl
    · exact ⟨"is_name", by first | exact .head _ | simp, ⟨f0, _, _, PySem.W.mg_of X G a0, l0, rfl, rfl⟩, h0, o0⟩
    · exact ⟨"is_valid_atom", by first | exact .head _ | simp, ⟨f1, _, _, PySem.W.mg_of X G a1, l1, rfl, rfl⟩, h1, o1⟩
    · exact ⟨"is_valid_rule", by first | exact .head _ | simp, ⟨f2, _, _, PySem.W.mg_of X G a2, l2, rfl, rfl⟩, h2, o2⟩
    · exact ⟨"instance_of", by first | exact .head _ | simp, ⟨f3, _, _, PySem.W.mg_of X G a3, l3, rfl, rfl⟩, h3, o3⟩
    · exact ⟨"numbered", by first | exact .head _ | simp, ⟨f4, _, _, PySem.W.mg_of X G a4, l4, rfl, rfl⟩, h4, o4⟩
  have cD := ok_draw (P := l.prog) (w := w) (base := base) (k := 0) D_law_draw z_int z_abs z_len z_max
  have cW := ok_word D_law_word cD z_int
  have cS := ok_symbols (k := 2) D_law_symbols (cD.mono (by decide)) cW z_range
  have cTp := ok_tape (P := l.prog) (w := w) (base := base) (k := 0) D_law_tape z_int z_abs z_list

  have cA := ok_alike (P := l.prog) (w := w) (base := base) (k := 0) D_law_alike z_int z_tuple z_isinstance z_repr
  have cAb := ok_alikeB (P := l.prog) (w := w) (base := base) (k := 0) D_law_alike z_int z_tuple z_isinstance z_repr
  have cAk := ok_alikeK (P := l.prog) (w := w) (base := base) (k := 0) D_law_alike z_int z_tuple z_isinstance z_repr
  have cT := ok_term (k := 3) D_law_term (cD.mono (by decide)) z_len z_range z_tuple 2
  have cRl := ok_relations (k := 3) D_law_relations (cD.mono (by decide)) (cW.mono (by decide)) z_range
  have cAt := ok_atom (k := 10) D_law_atom (cD.mono (by decide)) (cT.mono (by decide)) z_range z_tuple z_len
  have cRe := ok_repl (P := l.prog) (w := w) (base := base) D_law_replaced z_int z_isinstance z_tuple 9
  have cC := ok_collect (P := l.prog) (w := w) (base := base) D_law_collect z_int z_isinstance 9
  have cLV := ok_lvars D_law_variables cC
  have cLN := ok_lnumbered (k := 20) D_law_numbered (cLV.mono (by decide)) (cRe.mono (by decide)) z_range z_len
  have cRo := ok_ruleover (k := 30) D_law_rule_over (cD.mono (by decide)) (cT.mono (by decide)) (cAt.mono (by decide)) (cLN.mono (by decide)) z_range z_tuple
  have cRu := ok_lrule D_law_rule cRo
  have cO := ok_occ (P := l.prog) (w := w) (base := base) (k := 0) Doccurrences_in z_int z_isinstance
  have cV := ok_vars Dvariables_of cO z_int z_tuple z_isinstance
  have cDp := ok_depth_of (P := l.prog) (w := w) (base := base) Ddepth_of z_int z_isinstance z_max 60
  have cI := ok_inst (P := l.prog) (w := w) (base := base) Dinstance_of (TB _ (.tail _ (.tail _ (.tail _ (.head _))))) z_int z_isinstance z_tuple 49
  have cN := ok_numbered (k := 150) Dnumbered (TB _ (.tail _ (.tail _ (.tail _ (.tail _ (.head _)))))) hd10 (cV.mono (by decide)) cI z_enumerate z_tuple
  have cAo := ok_aor (P := l.prog) (w := w) (base := base) (k := 3) Datoms_of_rule
  have cVo := ok_vor (k := 5) Dvariables_of_rule (cAo.mono (by decide)) (cV.mono (by decide))
  have cNm := ok_isname (P := l.prog) (w := w) (k := 0) Dis_name (TB _ (.head _)) z_len z_all G_MOST_SIGNS G_SMALL_LETTERS G_NAME_SIGNS
  have cEq := ok_iseq (P := l.prog) (w := w) (base := base) (k := 0) Dis_equation
  have cSm := ok_issmall (P := l.prog) (w := w) (base := base) (k := 0) Dis_small G_MOST_SIZE G_MOST_DEPTH
  have cVa := ok_vatom (k := 70) Dis_valid_atom (TB _ (.tail _ (.head _))) hd0 (cO.mono (by decide)) (cEq.mono (by decide)) (cNm.mono (by decide)) (cSm.mono (by decide)) (cDp.mono (by decide)) z_int z_isinstance z_len z_all z_max G_MOST_ARGUMENTS
  have cNr := ok_numrule (k := 153) Dnumbered_rule (cAo.mono (by decide)) (cN.mono (by decide))
  have cVr := ok_vrule (k := 155) Dis_valid_rule (TB _ (.tail _ (.tail _ (.head _)))) (by simp [hd0, hd1, hd2, hd3, hd4, hd5, hd6, hd7, hd8, hd9]) (by decide) (cNm.mono (by decide)) (cVa.mono (by decide)) (cEq.mono (by decide)) (cAo.mono (by decide)) (cVo.mono (by decide)) (cNr.mono (by decide)) z_len z_all G_MOST_PREMISES G_MOST_VARIABLES
  exact ok_law (k := 170) Flaw (fun _ h => h) (cTp.mono (by decide)) (cD.mono (by decide)) (cS.mono (by decide)) (cRl.mono (by decide)) (cW.mono (by decide)) (cRu.mono (by decide)) (cLN.mono (by decide)) (cLV.mono (by decide)) (cRe.mono (by decide)) (cA.mono (by decide)) (cAb.mono (by decide)) (cAk.mono (by decide)) (cNr.mono (by decide)) (cVr.mono (by decide)) ⟨_, PySem.W.mg_of X G gR, rfl⟩ gR0 rfl (fun _ => refl_dp gR0 gR1 gR2) z_range z_tuple z_len z_list z_int
end Lw
open PySem PySem.W PyProof.Rows
set_option maxHeartbeats 0 in
theorem PySem.Challenge.cw_openrules_k15_numbered_rules_holds : PySem.Challenge.rw_openrules_k15_numbered_rules.Holds := by
  w_on; o_law; k_head; (case hw => w_witness2)
  k_fill
  refine Lw.walk_ofGT (l := PySem.Challenge.rw_openrules_k15_numbered_rules) (n := 63) (k := 171) (x := "script") (cs := [47, 68, 90, 35, 42]) (sp := fun w => Lw.spLawT _ [47, 68, 90, 35, 42]) rfl (by decide) rfl ⟨⟨rfl, by decide, by decide⟩, rfl⟩ (fun w h Y => PySem.W.kIn_of Y) ["is_name", "is_valid_atom", "is_valid_rule", "instance_of", "numbered"] (by kernel_rfl) ?F (fun _ _ a ns hl hO hS => ⟨a, ns, rfl, hS, hl, hO, fun _ => rfl⟩)
  case F =>
    intro w mg fa h KX G hmg
    refine' Lw.all_mk (P0 := 47) (P1 := 68) (P2 := 90) (P3 := 35) (P4 := 42) KX G hmg ?a0 ?l0 ?c_0 ?k0 ?h0 ?o0 ?a1 ?l1 ?c_1 ?k1 ?h1 ?o1 ?a2 ?l2 ?c_2 ?k2 ?h2 ?o2 ?a3 ?l3 ?c_3 ?k3 ?h3 ?o3 ?a4 ?l4 ?c_4 ?k4 ?h4 ?o4 ?a5 ?l5 ?c_5 ?k5 ?a6 ?l6 ?c_6 ?k6 ?a7 ?l7 ?c_7 ?k7 ?a8 ?l8 ?c_8 ?k8 ?a9 ?l9 ?c_9 ?k9 ?a10 ?l10 ?c_10 ?k10 ?a11 ?l11 ?c_11 ?k11 ?a12 ?l12 ?c_12 ?k12 ?a13 ?l13 ?c_13 ?k13 ?a14 ?l14 ?c_14 ?k14 ?a15 ?l15 ?c_15 ?k15 ?a16 ?l16 ?c_16 ?k16 ?a17 ?l17 ?c_17 ?k17 ?a18 ?l18 ?c_18 ?k18 ?a19 ?l19 ?c_19 ?k19 ?a20 ?l20 ?c_20 ?k20 ?a21 ?l21 ?c_21 ?k21 ?a22 ?l22 ?c_22 ?k22 ?a23 ?l23 ?c_23 ?k23 ?a24 ?l24 ?c_24 ?k24 ?a25 ?l25 ?c_25 ?k25 ?a26 ?l26 ?c_26 ?k26 ?a27 ?l27 ?c_27 ?k27 ?y_int ?y_abs ?y_list ?y_len ?y_max ?y_range ?y_tuple ?y_isinstance ?y_repr ?y_enumerate ?y_all ?g_MOST_SIGNS ?g_SMALL_LETTERS ?g_NAME_SIGNS ?g_MOST_SIZE ?g_MOST_DEPTH ?g_MOST_ARGUMENTS ?g_MOST_PREMISES ?g_MOST_VARIABLES ?gR ?gR0 ?gR1 ?gR2 ?hd0 ?hd1 ?hd2 ?hd3 ?hd4 ?hd5 ?hd6 ?hd7 ?hd8 ?hd9 ?hd10
    (case a0 => k_is)
    (case l0 => k_is)
    (case c_0 => k_is)
    (case k0 => k_is)
    (case h0 => kernel_rfl)
    (case o0 => kernel_rfl)
    (case a1 => k_is)
    (case l1 => k_is)
    (case c_1 => k_is)
    (case k1 => k_is)
    (case h1 => kernel_rfl)
    (case o1 => kernel_rfl)
    (case a2 => k_is)
    (case l2 => k_is)
    (case c_2 => k_is)
    (case k2 => k_is)
    (case h2 => kernel_rfl)
    (case o2 => kernel_rfl)
    (case a3 => k_is)
    (case l3 => k_is)
    (case c_3 => k_is)
    (case k3 => k_is)
    (case h3 => kernel_rfl)
    (case o3 => kernel_rfl)
    (case a4 => k_is)
    (case l4 => k_is)
    (case c_4 => k_is)
    (case k4 => k_is)
    (case h4 => kernel_rfl)
    (case o4 => kernel_rfl)
    (case a5 => k_is)
    (case l5 => k_is)
    (case c_5 => k_is)
    (case k5 => k_is)
    (case a6 => k_is)
    (case l6 => k_is)
    (case c_6 => k_is)
    (case k6 => k_is)
    (case a7 => k_is)
    (case l7 => k_is)
    (case c_7 => k_is)
    (case k7 => k_is)
    (case a8 => k_is)
    (case l8 => k_is)
    (case c_8 => k_is)
    (case k8 => k_is)
    (case a9 => k_is)
    (case l9 => k_is)
    (case c_9 => k_is)
    (case k9 => k_is)
    (case a10 => k_is)
    (case l10 => k_is)
    (case c_10 => k_is)
    (case k10 => k_is)
    (case a11 => k_is)
    (case l11 => k_is)
    (case c_11 => k_is)
    (case k11 => k_is)
    (case a12 => k_is)
    (case l12 => k_is)
    (case c_12 => k_is)
    (case k12 => k_is)
    (case a13 => k_is)
    (case l13 => k_is)
    (case c_13 => k_is)
    (case k13 => k_is)
    (case a14 => k_is)
    (case l14 => k_is)
    (case c_14 => k_is)
    (case k14 => k_is)
    (case a15 => k_is)
    (case l15 => k_is)
    (case c_15 => k_is)
    (case k15 => k_is)
    (case a16 => k_is)
    (case l16 => k_is)
    (case c_16 => k_is)
    (case k16 => k_is)
    (case a17 => k_is)
    (case l17 => k_is)
    (case c_17 => k_is)
    (case k17 => k_is)
    (case a18 => k_is)
    (case l18 => k_is)
    (case c_18 => k_is)
    (case k18 => k_is)
    (case a19 => k_is)
    (case l19 => k_is)
    (case c_19 => k_is)
    (case k19 => k_is)
    (case a20 => k_is)
    (case l20 => k_is)
    (case c_20 => k_is)
    (case k20 => k_is)
    (case a21 => k_is)
    (case l21 => k_is)
    (case c_21 => k_is)
    (case k21 => k_is)
    (case a22 => k_is)
    (case l22 => k_is)
    (case c_22 => k_is)
    (case k22 => k_is)
    (case a23 => k_is)
    (case l23 => k_is)
    (case c_23 => k_is)
    (case k23 => k_is)
    (case a24 => k_is)
    (case l24 => k_is)
    (case c_24 => k_is)
    (case k24 => k_is)
    (case a25 => k_is)
    (case l25 => k_is)
    (case c_25 => k_is)
    (case k25 => k_is)
    (case a26 => k_is)
    (case l26 => k_is)
    (case c_26 => k_is)
    (case k26 => k_is)
    (case a27 => k_is)
    (case l27 => k_is)
    (case c_27 => k_is)
    (case k27 => k_is)
    (case y_int => k_is)
    (case y_abs => k_is)
    (case y_list => k_is)
    (case y_len => k_is)
    (case y_max => k_is)
    (case y_range => k_is)
    (case y_tuple => k_is)
    (case y_isinstance => k_is)
    (case y_repr => k_is)
    (case y_enumerate => k_is)
    (case y_all => k_is)
    (case g_MOST_SIGNS => k_is)
    (case g_SMALL_LETTERS => k_is)
    (case g_NAME_SIGNS => k_is)
    (case g_MOST_SIZE => k_is)
    (case g_MOST_DEPTH => k_is)
    (case g_MOST_ARGUMENTS => k_is)
    (case g_MOST_PREMISES => k_is)
    (case g_MOST_VARIABLES => k_is)
    (case gR => k_is)
    (case gR0 => k_is)
    (case gR1 => k_is)
    (case gR2 => k_is)
    (case hd0 => decide)
    (case hd1 => decide)
    (case hd2 => decide)
    (case hd3 => decide)
    (case hd4 => decide)
    (case hd5 => decide)
    (case hd6 => decide)
    (case hd7 => decide)
    (case hd8 => decide)
    (case hd9 => decide)
    (case hd10 => decide)
