import PyProof.Rows.All
import Wide.All
import OpenK.AllK
import Wide.FinOn
import PyProof.ZipIter
import PyProof.WalksMore
import PyProof.ListRange
import KE.KSortKeySt
import KE.KLam
import PyProof.EqAt
import PyProof.EqKinds
import PyProof.TupleCall
import KE.BitLaws
import Open.SpecLaws
import KE.OsHead
import KE.OsGo
import PySem.Challenge.RW_evenrowsdesk_s01_answers
section
set_option Elab.async false
set_option linter.all false
set_option maxRecDepth 100000
set_option maxHeartbeats 4000000
namespace L2
open PySem
section
variable {prog : Program} {w : World} {A : Around} {E : Value → Shared → Prop} {s : Shared}
theorem nextTup {ia ta : Addr} {j : Nat} {us : Array Value} {u : Value} {Q : Value → Shared → Prop} (ti : s.heap.IsTupleIter ia ta j) (tt : s.heap.IsTuple ta us) (hu : us[j]? = some u)
    (k : ∀ g, g.IsTupleIter ia ta (j + 1) → Heap.SameBut ia s.heap g → Q u { s with heap := g }) : wpAny (model prog w) A (Builtin.SmallTypes.nextOf (.ref ia)) Q E s := by
  obtain ⟨ob, e1, e2, e3⟩ := id ti
  obtain ⟨ot, f1, _, nn, f3⟩ := tt
  unfold Builtin.SmallTypes.nextOf
  refine wpAny_bind (wpAny_callSpecial?_slot (name := Str.ofString "__next__") ti.typeIs F.slot_tuple_iterator_next (wpAny_call_entry F.slot_tuple_iterator_next ti.typeIs F.entry_tuple_iterator_next ?_ (F.args_tuple_iterator_next_1 _)))
  show wpAny _ _ (field (.ref ia) 0 >>= _) _ _ s
  refine wpAny_bind (wpAny_field e1 e3 (x := .ref ta) rfl ?_)
  show wpAny _ _ (if (Value.ref ta == Value.none) = true then _ else _) _ _ s
  rw [if_neg (show ¬ ((Value.ref ta == Value.none) = true) from Bool.false_ne_true)]
  show wpAny _ _ (field (.ref ia) 1 >>= _) _ _ s
  refine wpAny_bind (wpAny_field e1 e3 (x := .int j 0) rfl ?_)
  show wpAny _ _ (seqItems? (.ref ta) >>= _) _ _ s
  refine wpAny_bind (wpAny_seqItems f1 f3 ?_)
  simp only [Int.toNat_natCast, hu]
  refine wpAny_bind (wpAny_setField e1 e3 (by simp) (wpAny_pure ⟨u, rfl, wpAny_pure (k _ ?_ (Heap.SameBut.update ..))⟩))
  exact ⟨_, Heap.get?_update_self _ e1 (Obj.isFreed_of_fields (Obj.data_mapFields e3 _)), (Obj.cls_mapFields ..).trans e2, by rw [Obj.data_mapFields e3]; simp [rawInt]⟩
theorem nextTup_end {ia ta : Addr} {j : Nat} {us : Array Value} {Q : Value → Shared → Prop} (hh : A.handled = none) (ti : s.heap.IsTupleIter ia ta j) (tt : s.heap.IsTuple ta us) (hu : us[j]? = none)
    (k : ∀ g e, Heap.ExtBut ia s.heap g → (∃ o, g.get? e = some o ∧ o.cls = .type "StopIteration") → E (.ref e) { s with heap := g }) : wpAny (model prog w) A (Builtin.SmallTypes.nextOf (.ref ia)) Q E s := by
  obtain ⟨ob, e1, e2, e3⟩ := id ti
  obtain ⟨ot, f1, _, nn, f3⟩ := tt
  unfold Builtin.SmallTypes.nextOf
  refine wpAny_bind (wpAny_callSpecial?_slot (name := Str.ofString "__next__") ti.typeIs F.slot_tuple_iterator_next (wpAny_call_entry F.slot_tuple_iterator_next ti.typeIs F.entry_tuple_iterator_next ?_ (F.args_tuple_iterator_next_1 _)))
  show wpAny _ _ (field (.ref ia) 0 >>= _) _ _ s
  refine wpAny_bind (wpAny_field e1 e3 (x := .ref ta) rfl ?_)
  show wpAny _ _ (if (Value.ref ta == Value.none) = true then _ else _) _ _ s
  rw [if_neg (show ¬ ((Value.ref ta == Value.none) = true) from Bool.false_ne_true)]
  show wpAny _ _ (field (.ref ia) 1 >>= _) _ _ s
  refine wpAny_bind (wpAny_field e1 e3 (x := .int j 0) rfl ?_)
  show wpAny _ _ (seqItems? (.ref ta) >>= _) _ _ s
  refine wpAny_bind (wpAny_seqItems f1 f3 ?_)
  simp only [Int.toNat_natCast, hu]
  refine wpAny_bind (wpAny_rule (wpAny_bind (wpAny_setField e1 e3 (by simp) ?_)))
  refine wpAny_bind (m := newExc (.type "StopIteration") []) ?_
  simp only [newExc, newTuple]
  refine wpAny_bind (wpAny_newObj_type ?_ (by size_fits)); refine wpAny_bind (m := firstArgMember _ _) (wpAny_of_eq (a := Value.none) (by first | rfl | (simp only [firstArgMember]; rfl)) ?_)
  refine wpAny_newObj_type ?_ (by size_fits); simp only [raiseNew]
  refine wpAny_bind (wpAny_handled ?_); first | rw [show A.in1.handled = none from hh] | rw [hh]
  refine wpAny_bind (wpAny_pure (wpAny_throw ?_)); exact k _ _ (((Heap.SameBut.update ..).extBut.push _).push _) ⟨_, Heap.get?_push_size _ rfl, rfl⟩
theorem zipT_item {z TI TO ia ib ta lb : Addr} {k : Nat} {us ws : Array Value} {u v a b : Value} {Q : Option Value → Shared → Prop} (D : ZipApart z TI TO ia ib ta lb) (hz : IsZip s.heap z TI TO .none) (hTI : IsPair s.heap TI (.ref ia) (.ref ib)) (hTO : IsPair s.heap TO a b)
    (n1 : s.heap.IsTupleIter ia ta k) (n2 : s.heap.IsListIter ib lb k) (t1 : s.heap.IsTuple ta us) (t2 : s.heap.IsList lb ws) (hu : us[k]? = some u) (hv : ws[k]? = some v)
    (hQ : ∀ g, IsZip g z TI TO (rawInt s.heap.objs.size) → IsPair g TO u v → g.IsTupleIter ia ta (k + 1) → g.IsListIter ib lb (k + 1) → IsPair g s.heap.objs.size u v → g.objs.size = s.heap.objs.size + 1 →
      (∀ c o, c ≠ z → c ≠ TO → c ≠ ia → c ≠ ib → s.heap.get? c = some o → g.get? c = some o) → Q (some (.ref s.heap.objs.size)) { s with heap := g }) : wpAny (model prog w) A (pyNext (.ref z)) Q E s := by
  have zT : s.TypeIs (.ref z) "zip" := ⟨_, hz, rfl⟩
  unfold pyNext
  refine wpAny_bind (wpAny_attempt (wpAny_callSpecial?_slot (name := Str.ofString "__next__") zT F.slot_zip_next (wpAny_call_entry F.slot_zip_next zT F.entry_zip_next ?_ (F.args_zip_next_1 _))))
  show wpAny _ _ (field (.ref z) 2 >>= _) _ _ _; refine wpAny_bind (wpAny_field hz rfl (x := .bool false) rfl ?_)
  show wpAny _ _ (field (.ref z) 3 >>= _) _ _ _; refine wpAny_bind (wpAny_field hz rfl (x := .ref TI) rfl ?_)
  refine wpAny_bind (wpAny_seqItems hTI rfl ?_); show wpAny _ _ (Builtin.SmallTypes.ownedTupleIsFree (.ref z) >>= _) _ _ _; refine wpAny_bind ?_
  unfold Builtin.SmallTypes.ownedTupleIsFree; refine wpAny_bind (wpAny_field hz rfl (x := .none) rfl (wpAny_pure ?_))
  simp only [if_true]; refine wpAny_bind (wpAny_rule ?_); refine wpAny_bind (wpAny_field hz rfl (x := .ref TO) rfl ?_)
  refine wpAny_bind (wpAny_setField_rec hz (by simp) fun g1 z1 m1 => ?_); replace z1 : IsZip g1 z TI TO .ellipsis := z1
  refine wpAny_bind ?_; simp only [List.zipIdx_cons, List.zipIdx_nil, List.forIn_cons, List.forIn_nil]
  refine wpAny_bind (wpAny_bind (wpAny_onRaise ?_)); show wpAny _ _ (Builtin.SmallTypes.nextOf (.ref ia) >>= _) _ _ _
  refine wpAny_bind (nextTup (n1.extBut m1.extBut D.i1z) (t1.extBut m1.extBut D.l1z) hu fun g2 j2 m2 => wpAny_pure ?_)
  have p2 : IsPair g2 TO a b := m2.extBut _ _ D.TOi1 (m1.extBut _ _ D.TOz hTO)
  refine wpAny_bind (wpAny_seqItems p2 rfl ?_); refine wpAny_bind (wpAny_updateSeq_pair p2 fun g3 p3 m3 => ?_)
  replace p3 : IsPair g3 TO u b := p3
  refine wpAny_bind (wpAny_letGo (wpAny_pure ?_)); refine wpAny_bind (wpAny_bind (wpAny_onRaise ?_)); show wpAny _ _ (Builtin.SmallTypes.nextOf (.ref ib) >>= _) _ _ _
  refine wpAny_bind (wpAny_nextOf_list_item (((n2.extBut m1.extBut D.i2z).extBut m2.extBut D.i12.symm).extBut m3.extBut D.TOi2.symm) (((t2.extBut m1.extBut D.l2z).extBut m2.extBut D.l2i1).extBut m3.extBut D.l2TO) hv fun g4 j4 m4 => wpAny_pure ?_)
  have p4 : IsPair g4 TO u b := m4.extBut _ _ D.TOi2 p3
  refine wpAny_bind (wpAny_seqItems p4 rfl ?_); refine wpAny_bind (wpAny_updateSeq_pair p4 fun g5 p5 m5 => ?_)
  replace p5 : IsPair g5 TO u v := p5
  refine wpAny_bind (wpAny_letGo (wpAny_pure (wpAny_pure ?_))); refine wpAny_bind (wpAny_seqItems p5 rfl ?_); refine wpAny_bind (wpAny_newTuple ?_)
  have sz : g5.objs.size = s.heap.objs.size := by rw [m5.1, m4.1, m3.1, m2.1, m1.1]
  have z5 : IsZip g5 z TI TO .ellipsis := m5.extBut _ _ D.TOz.symm (m4.extBut _ _ D.i2z.symm (m3.extBut _ _ D.TOz.symm (m2.extBut _ _ D.i1z.symm z1)))
  have q5 : ∀ c o, c ≠ z → c ≠ TO → c ≠ ia → c ≠ ib → s.heap.get? c = some o → g5.get? c = some o := fun c o c1 c2 c3 c4 e => m5.extBut _ _ c2 (m4.extBut _ _ c4 (m3.extBut _ _ c2 (m2.extBut _ _ c3 (m1.extBut _ _ c1 e))))
  have i5 : g5.IsTupleIter ia ta (k + 1) := ((j2.extBut m3.extBut D.TOi1.symm).extBut m4.extBut D.i12).extBut m5.extBut D.TOi1.symm
  have j5 : g5.IsListIter ib lb (k + 1) := j4.extBut m5.extBut D.TOi2.symm
  have lz : z < g5.objs.size := Heap.lt_size z5
  show wpAny _ _ (Builtin.SmallTypes.ownedTupleHandOut (.ref z) (.ref g5.objs.size) >>= _) _ _ _
  refine wpAny_bind ?_; unfold Builtin.SmallTypes.ownedTupleHandOut
  have z6 : IsZip (g5.push { cls := .type "tuple", data := .seq #[u, v] }) z TI TO .ellipsis := Heap.get?_push_of_some _ z5
  refine wpAny_bind (wpAny_setField_rec z6 (by simp) fun g7 z7 m7 => ?_); replace z7 : IsZip g7 z TI TO (rawInt g5.objs.size) := z7
  refine wpAny_setField_rec z7 (by simp) fun g8 z8 m8 => ?_; replace z8 : IsZip g8 z TI TO (rawInt g5.objs.size) := z8
  have up : ∀ c o, c ≠ z → g5.get? c = some o → g8.get? c = some o := fun c o c1 e => m8.extBut _ _ c1 (m7.extBut _ _ c1 (Heap.get?_push_of_some _ e))
  have p8 : IsPair g8 g5.objs.size u v := m8.extBut _ _ (Nat.ne_of_gt lz) (m7.extBut _ _ (Nat.ne_of_gt lz) (Heap.get?_push_size _ rfl))
  have s8 : g8.objs.size = g5.objs.size + 1 := by rw [m8.1, m7.1, Heap.size_push]
  rw [sz] at z8 p8 s8
  refine wpAny_pure ⟨_, rfl, wpAny_pure ?_⟩
  show Q (some (.ref g5.objs.size)) _
  rw [sz]
  exact hQ g8 z8 (up _ _ D.TOz p5) (i5.at fun o e => up _ o D.i1z e) (j5.at fun o e => up _ o D.i2z e) p8 s8 fun c o c1 c2 c3 c4 e => up c o c1 (q5 c o c1 c2 c3 c4 e)
theorem zipT_end {z TI TO ia ib ta lb : Addr} {k : Nat} {us : Array Value} {a b : Value} {Q : Option Value → Shared → Prop} (hh : A.handled = none) (D : ZipApart z TI TO ia ib ta lb) (hz : IsZip s.heap z TI TO .none) (hTI : IsPair s.heap TI (.ref ia) (.ref ib)) (hTO : IsPair s.heap TO a b)
    (n1 : s.heap.IsTupleIter ia ta k) (t1 : s.heap.IsTuple ta us) (hu : us[k]? = none)
    (hQ : ∀ g, (∀ c o, c ≠ z → c ≠ TO → c ≠ ia → c ≠ ib → s.heap.get? c = some o → g.get? c = some o) → Q none { s with heap := g }) : wpAny (model prog w) A (pyNext (.ref z)) Q E s := by
  have zT : s.TypeIs (.ref z) "zip" := ⟨_, hz, rfl⟩
  unfold pyNext
  refine wpAny_bind (wpAny_attempt (wpAny_callSpecial?_slot (name := Str.ofString "__next__") zT F.slot_zip_next (wpAny_call_entry F.slot_zip_next zT F.entry_zip_next ?_ (F.args_zip_next_1 _))))
  show wpAny _ _ (field (.ref z) 2 >>= _) _ _ _; refine wpAny_bind (wpAny_field hz rfl (x := .bool false) rfl ?_)
  show wpAny _ _ (field (.ref z) 3 >>= _) _ _ _; refine wpAny_bind (wpAny_field hz rfl (x := .ref TI) rfl ?_)
  refine wpAny_bind (wpAny_seqItems hTI rfl ?_); show wpAny _ _ (Builtin.SmallTypes.ownedTupleIsFree (.ref z) >>= _) _ _ _; refine wpAny_bind ?_
  unfold Builtin.SmallTypes.ownedTupleIsFree; refine wpAny_bind (wpAny_field hz rfl (x := .none) rfl (wpAny_pure ?_))
  simp only [if_true]; refine wpAny_bind (wpAny_rule ?_); refine wpAny_bind (wpAny_field hz rfl (x := .ref TO) rfl ?_)
  refine wpAny_bind (wpAny_setField_rec hz (by simp) fun g1 z1 m1 => ?_); replace z1 : IsZip g1 z TI TO .ellipsis := z1
  refine wpAny_bind ?_; simp only [List.zipIdx_cons, List.zipIdx_nil, List.forIn_cons, List.forIn_nil]
  refine wpAny_bind (wpAny_bind (wpAny_onRaise ?_)); show wpAny _ _ (Builtin.SmallTypes.nextOf (.ref ia) >>= _) _ _ _
  refine wpAny_bind (nextTup_end hh (n1.extBut m1.extBut D.i1z) (t1.extBut m1.extBut D.l1z) hu fun g2 e m2 he => ?_)
  obtain ⟨oe, he1, he2⟩ := he
  have z2 : IsZip g2 z TI TO .ellipsis := m2 _ _ D.i1z.symm z1
  have hez : e ≠ z := fun q => by subst q; rw [z2] at he1; cases he1; simp at he2
  refine wpAny_setField_rec z2 (by simp) fun g3 _ m3 => ?_
  refine wpAny_bind (wpAny_isInstance (T := "StopIteration") (b := true) ⟨oe, m3.extBut _ _ hez he1, he2⟩ isSubtype_stop ?_)
  exact wpAny_pure (hQ _ fun c o c1 _ c3 _ x => m3.extBut _ _ c1 (m2 _ _ c3 (m1.extBut _ _ c1 x)))
end
abbrev zt1 (h : Heap) (l1 : Addr) : Heap := h.push { cls := .type "tuple_iterator", data := .fields #[.ref l1, .int 0 0] }
abbrev zt2 (h : Heap) (l1 l2 : Addr) : Heap := (zt1 h l1).push { cls := .type "list_iterator", data := .fields #[.ref l2, .int 0 0] }
abbrev zt3 (h : Heap) (l1 l2 : Addr) : Heap := (zt2 h l1 l2).push { cls := .type "tuple", data := .seq #[.ref h.objs.size, .ref (zt1 h l1).objs.size] }
abbrev zt4 (h : Heap) (l1 l2 : Addr) : Heap := (zt3 h l1 l2).push { cls := .type "tuple", data := .seq #[.none, .none] }
abbrev zt5 (h : Heap) (l1 l2 : Addr) : Heap := (zt4 h l1 l2).push { cls := .type "zip", data := .fields #[.none, .bool false, .bool false, .ref (zt2 h l1 l2).objs.size, .ref (zt3 h l1 l2).objs.size] }
theorem meets_zipT (l1 l2 : Addr) (us ws : Array Value) : Meets (Builtin.«zip.__new__» ⟨[.type "zip", .ref l1, .ref l2], []⟩) (fun _ R s => s.heap.IsTuple l1 us ∧ s.heap.IsList l2 ws ∧ R (.ok (.ret (.ref (zt4 s.heap l1 l2).objs.size))) { s with heap := zt5 s.heap l1 l2 }) :=
  .of_wp fun prog w A R s h => by
    obtain ⟨hp, g, d, tk, os⟩ := s; obtain ⟨hl1, hl2, h⟩ := h
    have hsub := sub_zip
    have hL1 : Heap.IsTuple (Shared.heap ⟨hp, g, d, tk, os⟩) l1 us := hl1
    have hL2 : Heap.IsList (Shared.heap ⟨hp.push { cls := .type "tuple_iterator", data := .fields #[.ref l1, .int 0 0] }, g, d, tk, os⟩) l2 ws := Heap.IsList.push hl2 _
    wp_walk using wpAny_pyIter_tuple hL1, wpAny_pyIter_list hL2
    exact ⟨_, rfl, h⟩
section
variable {prog : Program} {w : World} {A : Around} {E : Value → Shared → Prop} {s : Shared}
theorem call_zipT {l1 l2 : Addr} {us ws : Array Value} {Q : Value → Shared → Prop} (hl1 : s.heap.IsTuple l1 us) (hl2 : s.heap.IsList l2 ws)
    (h : ∀ g, IsZip g (s.heap.objs.size + 4) (s.heap.objs.size + 2) (s.heap.objs.size + 3) .none → IsPair g (s.heap.objs.size + 2) (.ref s.heap.objs.size) (.ref (s.heap.objs.size + 1)) → IsPair g (s.heap.objs.size + 3) .none .none →
      g.IsTupleIter s.heap.objs.size l1 0 → g.IsListIter (s.heap.objs.size + 1) l2 0 → (∀ c o, s.heap.get? c = some o → g.get? c = some o) → Q (.ref (s.heap.objs.size + 4)) { s with heap := g }) :
    wpAny (model prog w) A (call (.type "zip") [.ref l1, .ref l2]) Q E s := by
  refine callType_new F.called_zip (by decide) (F.typeCall_zip_2 _ _) (F.newCall_zip_2 _ _) (fun obj => F.args_object_init_3 obj _ _) F.entry_zip_new (meets_zipT l1 l2 us ws) ⟨hl1, hl2, ?_⟩
  have z1 : (zt1 s.heap l1).objs.size = s.heap.objs.size + 1 := Heap.size_push ..
  have z2 : (zt2 s.heap l1 l2).objs.size = s.heap.objs.size + 2 := by rw [Heap.size_push, z1]
  have z3 : (zt3 s.heap l1 l2).objs.size = s.heap.objs.size + 3 := by rw [Heap.size_push, z2]
  have z4 : (zt4 s.heap l1 l2).objs.size = s.heap.objs.size + 4 := by rw [Heap.size_push, z3]
  have a5 : (zt5 s.heap l1 l2).get? (zt4 s.heap l1 l2).objs.size = some _ := Heap.get?_push_size _ rfl
  have a4 : (zt5 s.heap l1 l2).get? (zt3 s.heap l1 l2).objs.size = some _ := Heap.get?_push_of_some _ (Heap.get?_push_size _ rfl)
  have a3 : (zt5 s.heap l1 l2).get? (zt2 s.heap l1 l2).objs.size = some _ := Heap.get?_push_of_some _ (Heap.get?_push_of_some _ (Heap.get?_push_size _ rfl))
  have a2 : (zt5 s.heap l1 l2).get? (zt1 s.heap l1).objs.size = some _ := Heap.get?_push_of_some _ (Heap.get?_push_of_some _ (Heap.get?_push_of_some _ (Heap.get?_push_size _ rfl)))
  have a1 : (zt5 s.heap l1 l2).get? s.heap.objs.size = some _ := Heap.get?_push_of_some _ (Heap.get?_push_of_some _ (Heap.get?_push_of_some _ (Heap.get?_push_of_some _ (Heap.get?_push_size _ rfl))))
  show _ ∧ _
  rw [z2, z3, z4] at a5
  rw [z1, z2] at a3
  rw [z3] at a4
  rw [z1] at a2
  rw [z4]
  exact ⟨⟨_, a5, rfl⟩, h _ a5 a3 a4 ⟨_, a1, rfl, rfl⟩ ⟨_, a2, rfl, rfl⟩ fun c o x => Heap.get?_push_of_some _ (Heap.get?_push_of_some _ (Heap.get?_push_of_some _ (Heap.get?_push_of_some _ (Heap.get?_push_of_some _ x))))⟩
end
end L2
end
section
set_option Elab.async false
set_option linter.all false
set_option maxRecDepth 100000
set_option maxHeartbeats 4000000
namespace L2
open PySem PyProof.Rows
def upTo (n : Nat) : List Int := (List.range n).map fun (k : Nat) => (k : Int)
theorem ints_of_get : ∀ {vs : List Value} {ns : List Int}, vs.length = ns.length → (∀ (j : Nat) (v : Value), vs[j]? = some v → ∃ z t, ns[j]? = some z ∧ v = .int z t) → IntsAre vs ns
  | [], [], _, _ => .nil
  | [], _ :: _, h, _ => by cases h
  | _ :: _, [], h, _ => by cases h
  | v :: vs, z :: ns, h, k => by
    obtain ⟨z', t, h1, h2⟩ := k 0 v rfl
    have : z = z' := Option.some.inj h1
    subst this h2
    exact .cons z t (ints_of_get (Nat.succ.inj h) fun j u hu => k (j + 1) u hu)
section
variable {prog : Program} {w : World} {A : Around} {E : Value → Shared → Prop} {s : Shared}
theorem collectRange {r : Addr} {n : Nat} {t u v : Tok} {Q : List Value → Shared → Prop} (hh : A.handled = none) (hr : IsRange s.heap r 0 (n : Int) 1 t u v) (hn : n ≤ 64)
    (k : ∀ g tk vs, (∀ b o, s.heap.get? b = some o → g.get? b = some o) → IntsAre vs (upTo n) → Q vs { s with heap := g, toks := tk }) : wpAny (model prog w) A (collect (.ref r)) Q E s := by
  have hsm : Builtin.Range.small 0 (n : Int) 1 = true := small_one (by omega) (by omega) (by omega) (by omega)
  have hsz : Builtin.Range.rangeSize 0 (n : Int) 1 = (n : Int) := by rw [rangeSize_one]; split <;> omega
  unfold collect
  refine wpAny_bind (wpAny_runValue (codeAny_builtin entry_proto_collect' ?_))
  show wpAny _ _ (do again (.builtin "list.__iadd__" ⟨[← newList [], .ref r], []⟩)) _ _ s
  refine wpAny_bind (wpAny_newList (wpAny_pure ⟨Code.quiet_builtin _ (by decide +kernel), codeAny_builtin entry_list_iadd' ?_⟩))
  have hS : (s.heap.push (seqObj "list" #[] 0)).get? s.heap.objs.size = some { cls := .type "list", data := .seq #[] 0 } := Heap.get?_push_size _ rfl
  rw [Around.under_plainId F.plain_list_iadd _]
  show wpAny _ A.in1 (Builtin.List.listExtendWith (.ref s.heap.objs.size) (.ref r) (.ref s.heap.objs.size)) _ _ _
  refine wpAny_extend_range (R := fun x s' => match x with
    | .ok (.ret v) => wpAny (model prog w) A (match v with
      | .ref a => do
        let o ← load a
        match o.data with
        | .seq xs _ => pure xs.toList
        | _ => unsupported "internal:collect"
      | _ => unsupported "internal:collect") Q E s'
    | .ok _ => False
    | .error e => E e s') (n := n) (s := { s with heap := s.heap.push (seqObj "list" #[] 0) }) hh (Heap.get?_push_of_some _ hr) hsm hsz (by omega) s.heap.objs.size (.ref s.heap.objs.size) 0 hS fun g tk acc c hk hS' hacc => ?_
  have keep : ∀ b o, s.heap.get? b = some o → g.get? b = some o := fun b o e => hk b o (Nat.ne_of_lt (Heap.lt_size e)) (Heap.get?_push_of_some _ e)
  refine wpAny_bind (wpAny_load hS' ?_)
  refine wpAny_pure (k g tk acc.toList keep ?_)
  have hz : acc.toList.length = (upTo n).length := by rw [Array.length_toList, hacc.1]; unfold upTo; rw [List.length_map, List.length_range]
  refine ints_of_get hz fun j x hx => ?_
  obtain ⟨tx, e⟩ := hacc.2 j x (by rw [← Array.getElem?_toList]; exact hx)
  have hj : j < n := by
    have := (List.getElem?_eq_some_iff.mp hx).1
    rw [Array.length_toList, hacc.1] at this
    exact this
  refine ⟨(j : Int), tx, ?_, by rw [e, show (0 : Int) + ((j : Nat) : Int) * 1 = (j : Int) by omega]⟩
  unfold upTo
  rw [List.getElem?_map, List.getElem?_range hj]
  rfl
end
section
variable {prog : Program} {w : World} {A : Around} {E : Value → Shared → Prop} {s : Shared} {h₀ : Heap} {L : Addr} {m : Str → Option Value} {news : List (Addr × Obj)} {Q : Value → Shared → Prop}
theorem out_keyed {kz ns : List Int} {g : Int → Int} {vs out : List Value} (hi : IntsAre vs ns) (ek : kz = ns.map g) (ko : KskOutSt false kz vs out) :
    ∃ ns' : List Int, IntsAre out ns' ∧ ns'.Perm ns ∧ ns'.Pairwise (fun x y => g x ≤ g y) ∧ ∀ z, ns'.filter (fun x => g x == z) = ns.filter (fun x => g x == z) := by
  subst ek
  obtain ⟨ps, hp, ho, hs, hst⟩ := ko
  have hlen := hi.length
  have rel : ∀ p, p ∈ (ns.map g).zip vs → p.1 = g (numOf p.2) ∧ p.2 ∈ vs := by
    rw [← hi.nums, List.map_map, List.zip_map_left]
    intro p hq
    obtain ⟨⟨a, b⟩, hz, rfl⟩ := List.mem_map.mp hq
    have h1 := mem_zip_self hz
    have e1 : a = b := h1.1
    have e2 : a ∈ vs := h1.2
    subst e1
    exact ⟨rfl, e2⟩
  have snd : ((ns.map g).zip vs).map Prod.snd = vs := List.map_snd_zip (by rw [List.length_map]; omega)
  refine ⟨(ps.map Prod.snd).map numOf, ?_, ?_, ?_, fun z => ?_⟩
  · rw [ho]
    exact intsAre_map _ fun v hv => by
      obtain ⟨p, hq, rfl⟩ := List.mem_map.mp hv
      exact hi.all _ (rel p (hp.mem_iff.mp hq)).2
  · have q := (hp.map Prod.snd).map numOf
    rw [snd, hi.nums] at q
    exact q
  · rw [List.pairwise_map, List.pairwise_map]
    refine hs.imp_of_mem fun {p q} a b c => ?_
    have c : p.1 ≤ q.1 := c
    rw [(rel p (hp.mem_iff.mp a)).1, (rel q (hp.mem_iff.mp b)).1] at c
    exact c
  · have e : ∀ l : List (Int × Value), (∀ p, p ∈ l → p.1 = g (numOf p.2)) → ((l.map Prod.snd).map numOf).filter (fun x => g x == z) = ((l.filter (fun p => p.1 == z)).map Prod.snd).map numOf := fun l hl => by
      rw [List.map_map, List.filter_map, List.map_map]
      congr 1
      exact List.filter_congr fun p hq => by show (g (numOf p.2) == z) = (p.1 == z); rw [hl p hq]
    rw [e ps fun p hq => (rel p (hp.mem_iff.mp hq)).1, hst z, ← e ((ns.map g).zip vs) fun p hq => (rel p hq).1, snd, hi.nums]
theorem sortedRange {r f : Addr} {n : Nat} {t u v : Tok} (g : Int → Int) (F : Fr h₀ L s.heap m) (N : News h₀ L s.heap news) (hh : A.handled = none) (hr : IsRange s.heap r 0 (n : Int) 1 t u v) (hn : n ≤ 64) {of : Obj} (hfo : s.heap.get? f = some of) (hfs : s.heap.objs.size = f + 1)
    (turn : ∀ (z : Int) (tz : Tok) (h : Heap) (tk : Nat) (own : List (Addr × Obj)), z ∈ upTo n → Fr h₀ L h m → News h₀ L h (news ++ own) →
      wpAny (model prog w) A.in1.in1 (call (.ref f) [.int z tz]) (KskEnd h₀ L m (news ++ own) (g z) { s with heap := h, toks := tk }) (fun _ _ => False) { s with heap := h, toks := tk })
    (done : ∀ D vs' ns' c h' tk, Fr h₀ L h' m → News h₀ L h' ((D, seqObj "list" (List.toArray vs') c) :: news) → s.heap.objs.size ≤ D → IntsAre vs' ns' → ns'.Perm (upTo n) → ns'.Pairwise (fun x y => g x ≤ g y) →
      (∀ z, ns'.filter (fun x => g x == z) = (upTo n).filter (fun x => g x == z)) → Q (.ref D) { s with heap := h', toks := tk }) :
    wpAny (model prog w) A (call (.builtin "sorted") [.ref r] [(Str.ofString "key", .ref f)]) Q E s := by
  refine call_function_entry_kw kind_sorted plain_sorted entry_sorted (ksk_s1 _ _) ?_
  unfold Builtin.«sorted»
  refine wpAny_bind (m := checkCount "sorted" 1 1 _) (wpAny_pure ?_)
  refine wpAny_bind (collectRange hh hr hn fun g1 tk vs keep hi => ?_)
  have hul : (upTo n).length = n := by unfold upTo; rw [List.length_map, List.length_range]
  have hvl : vs.length = n := by have := hi.length; omega
  refine wpAny_bind (wpAny_newList ?_ (by rw [sizeLine_eq]; omega))
  have le : s.heap.objs.size ≤ g1.objs.size := by rw [hfs]; exact Heap.lt_size (keep _ _ hfo)
  have hoL : (g1.push (seqObj "list" vs.toArray 0)).get? g1.objs.size = some (seqObj "list" vs.toArray 0) := Heap.get?_push_size _ rfl
  have kp : ∀ b o, s.heap.get? b = some o → (g1.push (seqObj "list" vs.toArray 0)).get? b = some o := fun b o e => Heap.get?_push_of_some _ (keep b o e)
  have hL : L < s.heap.objs.size := F.ns.lt
  have hLg : L < g1.objs.size := by
    obtain ⟨o, es, ep, ho, _⟩ := F.ns
    exact Heap.lt_size (keep _ _ ho)
  refine wpAny_bind (wpAny_holding (wpAny_call_entry_kw slot_list_sort ⟨_, hoL, rfl⟩ entry_list_sort ?body (ksk_l1 _ _)))
  case body =>
    show wpAny (model prog w) A.in1.in1 (Builtin.«list.sort» ⟨[.ref g1.objs.size], [(Str.ofString "key", .ref f)]⟩) _ _ _
    rw [ksk_t1]
    refine ksk_sortSt (b := false) (kz := (upTo n).map g) (s := { s with heap := g1.push (seqObj "list" vs.toArray 0), toks := tk }) (F.kept kp) (N.grown kp) hoL (Nat.ne_of_gt hLg) (Heap.get?_none_of_le (Nat.le_trans F.above (Nat.le_of_lt hLg)))
      (fun p hp => Nat.ne_of_lt (Heap.lt_size (keep _ _ (N p hp).1))) (by rw [List.length_map]; omega) (by rw [sizeLine_eq]; omega) (fun i x k hx hk h tk' own F' N' => ?_) fun h' tk' out c F' N' ko => ⟨_, rfl, ?_⟩
    · rw [List.getElem?_map] at hk
      cases q : (upTo n)[i]? with
      | none => rw [q] at hk; cases hk
      | some z =>
        rw [q] at hk
        obtain rfl : g z = k := Option.some.inj hk
        obtain ⟨tz, e⟩ := hi.get i z q
        rw [e] at hx
        cases hx
        exact turn z tz h tk' own (List.mem_of_getElem? q) F' N'
    · obtain ⟨ns', a1, a2, a3, a4⟩ := out_keyed hi rfl ko
      refine wpAny_pure ⟨_, rfl, done _ out.toList ns' c h' tk' F' (by rw [Array.toArray_toList]; exact N') ?_ a1 a2 a3 a4⟩
      exact le
end
end L2
end
section
set_option Elab.async false
set_option linter.all false
set_option maxRecDepth 100000
namespace L2
open PySem PySem.Spec PyProof.Rows
abbrev Key := Sum Int Str
def keyIs : Key → Value → Bool
  | .inl k, v => Value.isInt k v
  | .inr x, v => Value.isStrOf x v
def keyH (w : World) : Key → Int
  | .inl k => hashInt k
  | .inr x => hashStr w x
theorem keyIs_shape : ∀ {k : Key} {v : Value}, keyIs k v = true → (∃ i t, k = Sum.inl i ∧ v = Value.int i t) ∨ (∃ x t, k = Sum.inr x ∧ v = Value.str x t)
  | .inl i, v, h => by
    obtain ⟨t, e⟩ := Value.isInt_shape (k := i) (v := v) h
    exact .inl ⟨i, t, rfl, e⟩
  | .inr x, v, h => by
    obtain ⟨t, e⟩ := Value.isStrOf_shape (x := x) (v := v) h
    exact .inr ⟨x, t, rfl, e⟩
theorem keyIs_int (i : Int) (t : Tok) : keyIs (.inl i) (.int i t) = true := by simp [keyIs, Value.isInt]
theorem keyIs_str (x : Str) (t : Tok) : keyIs (.inr x) (.str x t) = true := by simp [keyIs, Value.isStrOf]
theorem key_ll (a b : Int) : decide ((Sum.inl a : Key) = Sum.inl b) = (a == b) := by
  by_cases e : a = b
  · subst e; simp
  · have h : ¬ (Sum.inl a : Key) = Sum.inl b := fun q => e (Sum.inl.inj q)
    rw [decide_eq_false h]
    exact (beq_eq_false_iff_ne.mpr e).symm
theorem key_rr (a b : Str) : decide ((Sum.inr a : Key) = Sum.inr b) = decide (a = b) := by
  by_cases e : a = b
  · subst e; simp
  · have h : ¬ (Sum.inr a : Key) = Sum.inr b := fun q => e (Sum.inr.inj q)
    rw [decide_eq_false h, decide_eq_false e]
theorem key_lr (a : Int) (b : Str) : decide ((Sum.inl a : Key) = Sum.inr b) = false := decide_eq_false (fun q => nomatch q)
theorem key_rl (a : Str) (b : Int) : decide ((Sum.inr a : Key) = Sum.inl b) = false := decide_eq_false (fun q => nomatch q)
def mixKind (prog : Program) (w : World) : PySem.KeyKind prog w Key where
  is := keyIs
  hash := keyH w
  inj := fun v a b ha hb => by
    rcases keyIs_shape ha with ⟨i, t, rfl, rfl⟩ | ⟨x, t, rfl, rfl⟩
    · rcases keyIs_shape hb with ⟨j, u, rfl, e⟩ | ⟨y, u, rfl, e⟩
      · injection e with e1 _; rw [e1]
      · exact nomatch e
    · rcases keyIs_shape hb with ⟨j, u, rfl, e⟩ | ⟨y, u, rfl, e⟩
      · exact nomatch e
      · injection e with e1 _; rw [e1]
  byValue := fun k v h => by
    rcases keyIs_shape h with ⟨i, t, rfl, rfl⟩ | ⟨x, t, rfl, rfl⟩ <;> rfl
  pyHash := fun hv h => by
    rcases keyIs_shape hv with ⟨i, t, rfl, rfl⟩ | ⟨x, t, rfl, rfl⟩
    · exact wpAny_pyHash_int h
    · exact wpAny_pyHash_str h
  eqBool := fun hu hv h => by
    rcases keyIs_shape hu with ⟨i, t, rfl, rfl⟩ | ⟨x, t, rfl, rfl⟩
    · rcases keyIs_shape hv with ⟨j, u, rfl, rfl⟩ | ⟨y, u, rfl, rfl⟩
      · rw [key_ll] at h; exact wpAny_eqBool_int h
      · rw [key_lr] at h; exact SeqAt.EqAt.int_str i t y u _ _ _ _ h
    · rcases keyIs_shape hv with ⟨j, u, rfl, rfl⟩ | ⟨y, u, rfl, rfl⟩
      · rw [key_rl] at h; exact SeqAt.EqAt.str_int x t j u _ _ _ _ h
      · rw [key_rr] at h; exact wpAny_eqBool_str h
  «strs» := fun k x t v h => by
    rcases keyIs_shape h with ⟨i, u, rfl, e⟩ | ⟨y, u, rfl, e⟩
    · exact nomatch e
    · injection e with e1 _
      subst e1
      cases v <;> rfl
theorem mixKind_int (prog : Program) (w : World) (i : Int) (t : Tok) : (mixKind prog w).is (.inl i) (.int i t) = true := keyIs_int i t
theorem mixKind_str (prog : Program) (w : World) (x : Str) (t : Tok) : (mixKind prog w).is (.inr x) (.str x t) = true := keyIs_str x t
end L2
namespace L2
open PySem PySem.Spec PyProof.Rows
inductive V where
  | non | bl (b : Bool) | int (i : Int) | str (x : Str) | byt (b : Array UInt8) | flt (b : UInt64) | ref (a : Addr) | ty (n : String)
  deriving DecidableEq
def RelV : V → Value → Prop
  | .non, u => u = Value.none
  | .bl b, u => u = Value.bool b
  | .int i, u => ∃ t, u = Value.int i t
  | .str x, u => ∃ t, u = Value.str x t
  | .byt b, u => ∃ t, u = Value.bytes b t
  | .flt b, u => ∃ t, u = Value.float b t
  | .ref a, u => u = Value.ref a
  | .ty n, u => u = Value.type n
abbrev Vals : List V → List Value → Prop := Paired RelV
theorem Vals.length {xs : List V} {us : List Value} (r : Vals xs us) : xs.length = us.length := Paired.length r
theorem Vals.get : ∀ {xs : List V} {us : List Value} {i : Nat} {x : V}, Vals xs us → xs[i]? = some x → ∃ u, us[i]? = some u ∧ RelV x u
  | _, _, _, _, .nil, e => by simp at e
  | _, _, 0, _, .cons r _, e => by simp at e; subst e; exact ⟨_, rfl, r⟩
  | _, _, i + 1, x, .cons _ t, e => by
    obtain ⟨u, h1, h2⟩ := Vals.get (i := i) (x := x) t (by simpa using e)
    exact ⟨u, by simpa using h1, h2⟩
theorem Vals.set {x : V} {u : Value} (r : RelV x u) : ∀ {xs : List V} {us : List Value} (i : Nat), Vals xs us → Vals (xs.set i x) (us.set i u)
  | _, _, _, .nil => .nil
  | _, _, 0, .cons _ t => .cons r t
  | _, _, i + 1, .cons q t => .cons q (Vals.set r i t)
theorem Vals.append : ∀ {xs ys : List V} {us ws : List Value}, Vals xs us → Vals ys ws → Vals (xs ++ ys) (us ++ ws)
  | _, _, _, _, .nil, s => s
  | _, _, _, _, .cons r t, s => .cons r (Vals.append t s)
theorem Vals.take : ∀ {xs : List V} {us : List Value} (n : Nat), Vals xs us → Vals (xs.take n) (us.take n)
  | _, _, 0, _ => .nil
  | _, _, _ + 1, .nil => .nil
  | _, _, n + 1, .cons r t => .cons r (Vals.take n t)
theorem Vals.drop : ∀ {xs : List V} {us : List Value} (n : Nat), Vals xs us → Vals (xs.drop n) (us.drop n)
  | _, _, 0, r => r
  | _, _, _ + 1, .nil => .nil
  | _, _, n + 1, .cons _ t => Vals.drop n t
def RelO : Option V → Option Value → Prop
  | some v, some u => RelV v u
  | none, none => True
  | _, _ => False
def KV {κ : Type} : List (κ × V) → List (κ × Value) → Prop := Paired fun (p : κ × V) (q : κ × Value) => p.1 = q.1 ∧ RelV p.2 q.2
def kV : Key → V
  | .inl i => .int i
  | .inr x => .str x
inductive HO where
  /-- a list -/
  | lst (xs : List V)
  /-- a tuple (never changes) -/
  | tup (xs : List V)
  /-- a dict whose keys are ints and texts; one whose keys are tuples of ints and texts (the empty one is both) -/
  | dK (kvs : List (Key × V)) | dT (kvs : List (List Key × V))
  /-- a set of ints: its members, its size -/
  | set (S : Int → Bool) (n : Nat)
  /-- an instance of the class at C, its dict at dx, its attributes -/
  | ins (C dx : Addr) (fs : List (Str × V))
  /-- the dict of the instance at x -/
  | own (x : Addr)
  /-- the dict of an exception -/
  | xd (fs : List (Str × V))
  /-- a bound method, f of x -/
  | met (f x : Addr)
  /-- a range object lo, lo + 1, .. below hi -/
  | rng (lo hi : Int)
  /-- a thing that is known to the object (the script; a dict while a loop walks it): read, never written while it is so -/
  | frz (o : Obj) (u : HO)
  /-- a code object's table -/
  | tbl (ps : Pos × Str)
  /-- any other thing, by what is true of its one object (a def of one's own: SetO a S n := HO.ext fun h => ..) -/
  | ext (φ : Heap → Prop)
abbrev Hp := Addr → Option HO
def upd (H : Hp) (a : Addr) (o : HO) : Hp := fun b => if b = a then some o else H b
theorem upd_same {H : Hp} {a : Addr} {o : HO} : upd H a o a = some o := by unfold upd; rw [if_pos rfl]
theorem upd_ne {H : Hp} {a b : Addr} {o : HO} (h : b ≠ a) : upd H a o b = H b := by unfold upd; rw [if_neg h]
theorem upd_upd {H : Hp} {a : Addr} {o u : HO} : upd (upd H a o) a u = upd H a u := by
  funext b; unfold upd; split <;> rfl
theorem ne_of {H : Hp} {a b : Addr} {o u : HO} (h : H a = some o) (h' : H b = some u) (d : o ≠ u) : a ≠ b := by
  intro e; subst e; rw [h] at h'; exact d (Option.some.inj h')
theorem ne_of_none {H : Hp} {a b : Addr} {o : HO} (h : H a = some o) (h' : H b = none) : a ≠ b := by
  intro e; subst e; rw [h] at h'; cases h'
def TabOk (H : Hp) (h : Heap) (a : Addr) (p : Pos × Str) : Prop := ∃ ps : Array Value, h.get? a = some { cls := .none, data := .fields ps } ∧ TriplesOk ps.toList ∧
  (codeAmong p.1 ps.toList = none ∨ ∃ c', codeAmong p.1 ps.toList = some (.ref c') ∧ H c' = some (.own a) ∧ h.CodeRec (.ref c') p.2)
section
variable (P : Program) (w : World)
def ObjOk (H : Hp) (h : Heap) (a : Addr) : HO → Prop
  | .lst xs => xs.length ≤ sizeLine ∧ ∃ (its : List Value) (n : Nat), Vals xs its ∧ h.get? a = some { cls := .type "list", data := .seq its.toArray n }
  | .tup xs => xs.length ≤ sizeLine ∧ ∃ its : List Value, Vals xs its ∧ IsTup h a its.toArray
  | .dK kvs => kvs.length ≤ sizeLine ∧ (a == sysModules) = false ∧ ∃ vs, KV kvs vs ∧ h.DictOf (mixKind P w) a vs
  | .dT kvs => kvs.length ≤ sizeLine ∧ (a == sysModules) = false ∧ ∃ xs : List (List Key × Addr × Value),
      Paired (fun (p : List Key × V) (q : List Key × Addr × Value) => p.1 = q.1 ∧ H q.2.1 = some (.tup (p.1.map kV)) ∧ RelV p.2 q.2.2) kvs xs ∧
      ∃ o es ep, h.get? a = some o ∧ o.ExactDict ∧ o.data = .dict es ep ∧ es.toList = xs.map (entryOfKey (tupleKind (mixKind P w))) ∧ (xs.map (·.1)).Nodup
  | .set S n => h.SetOf (intKind P w) a S n
  | .ins C dx fs => H dx = some (.own a) ∧ fs.length ≤ 1000 ∧ dx ≠ a ∧ h.get? a = some (PySem.W.instObj C dx) ∧
      ∃ mA, h.Ns1 dx mA ∧ (∀ f, RelO (fs.lookup f) (mA f)) ∧ PySem.Within mA (fs.map (·.1))
  | .own _ => ∃ o, h.get? a = some o
  | .xd fs => ∃ mA, h.Ns1 a mA ∧ ∀ f, RelO (fs.lookup f) (mA f)
  | .rng lo hi => ∃ t u v, h.get? a = some { cls := .type "range", data := .fields #[.int lo t, .int hi u, .int 1 v] }
  | .frz o u => h.get? a = some o ∧ ObjOk H h a u
  | .tbl ps => TabOk H h a ps
  | .met f x => h.get? a = some (PySem.W.methodObj (.ref f) (.ref x))
  | .ext φ => φ h ∧ (∃ o, h.get? a = some o) ∧ ∀ h1 h2 : Heap, φ h1 → (∀ o, h1.get? a = some o → h2.get? a = some o) → φ h2
def HOk (H : Hp) (h : Heap) : Prop := ∀ a o, H a = some o → ObjOk P w H h a o
end
section
variable {P : Program} {w : World} {H H' : Hp} {h h' : Heap} {a : Addr} {o : HO}
theorem ObjOk.lt (x : ObjOk P w H h a o) : a < h.objs.size := by
  cases o with
  | lst xs => obtain ⟨_, _, _, _, e⟩ := x; exact Heap.lt_size e
  | tup xs => obtain ⟨_, _, _, p⟩ := x; exact p.lt
  | dK kvs => obtain ⟨_, _, _, _, o, _, _, e, _⟩ := x; exact Heap.lt_size e
  | dT kvs => obtain ⟨_, _, _, _, o, _, _, e, _⟩ := x; exact Heap.lt_size e
  | set S n => obtain ⟨o, _, _, _, e, _⟩ := x; exact Heap.lt_size e
  | ins C dx fs => obtain ⟨_, _, _, e, _⟩ := x; exact Heap.lt_size e
  | own y => obtain ⟨_, e⟩ := x; exact Heap.lt_size e
  | xd fs => obtain ⟨_, ⟨_, _, _, e, _⟩, _⟩ := x; exact Heap.lt_size e
  | rng lo hi => obtain ⟨_, _, _, e⟩ := x; exact Heap.lt_size e
  | frz ob u => obtain ⟨e, _⟩ := x; exact Heap.lt_size e
  | tbl ps => obtain ⟨_, e, _⟩ := x; exact Heap.lt_size e
  | met f y => exact Heap.lt_size (show h.get? a = some _ from x)
  | ext φ => obtain ⟨_, ⟨_, e⟩, _⟩ := x; exact Heap.lt_size e
theorem Paired.mapP {α β : Type} {F G : α → β → Prop} : ∀ {l₁ : List α} {l₂ : List β}, Paired F l₁ l₂ → (∀ a b, F a b → G a b) → Paired G l₁ l₂
  | _, _, .nil, _ => .nil
  | _, _, .cons r t, f => .cons (f _ _ r) (Paired.mapP t f)
theorem ObjOk.stay (x : ObjOk P w H h a o) (k : ∀ b u, (b = a ∨ H b = some (.own a)) → h.get? b = some u → h'.get? b = some u)
    (ho : ∀ b, H b = some (.own a) → H' b = some (.own a)) (ht : ∀ b xs, H b = some (.tup xs) → H' b = some (.tup xs)) : ObjOk P w H' h' a o := by
  induction o with
  | lst xs => obtain ⟨z, its, n, r, e⟩ := x; exact ⟨z, its, n, r, k _ _ (.inl rfl) e⟩
  | tup xs => obtain ⟨z, its, r, ob, e, c⟩ := x; exact ⟨z, its, r, ob, k _ _ (.inl rfl) e, c⟩
  | dK kvs => obtain ⟨z, y, vs, r, ob, es, ep, e, c⟩ := x; exact ⟨z, y, vs, r, ob, es, ep, k _ _ (.inl rfl) e, c⟩
  | dT kvs =>
    obtain ⟨z, y, xs, r, ob, es, ep, e, c⟩ := x
    exact ⟨z, y, xs, Paired.mapP r fun p q z => ⟨z.1, ht _ _ z.2.1, z.2.2⟩, ob, es, ep, k _ _ (.inl rfl) e, c⟩
  | set S n => obtain ⟨ob, es, ep, t, e, c⟩ := x; exact ⟨ob, es, ep, t, k _ _ (.inl rfl) e, c⟩
  | ins C dx fs =>
    obtain ⟨d, z, ne, e, mA, ⟨od, es, ep, e2, c⟩, r⟩ := x
    exact ⟨ho _ d, z, ne, k _ _ (.inl rfl) e, mA, ⟨od, es, ep, k _ _ (.inr d) e2, c⟩, r⟩
  | own y => obtain ⟨ob, e⟩ := x; exact ⟨ob, k _ _ (.inl rfl) e⟩
  | xd fs => obtain ⟨mA, ⟨od, es, ep, e, c⟩, r⟩ := x; exact ⟨mA, ⟨od, es, ep, k _ _ (.inl rfl) e, c⟩, r⟩
  | rng lo hi => obtain ⟨t, u, v, e⟩ := x; exact ⟨t, u, v, k _ _ (.inl rfl) e⟩
  | frz ob u ih => obtain ⟨e, q⟩ := x; exact ⟨k _ _ (.inl rfl) e, ih q⟩
  | tbl ps =>
    obtain ⟨qs, e, t, q⟩ := x
    refine ⟨qs, k a _ (.inl rfl) e, t, ?_⟩
    rcases q with q | ⟨c', q1, q2, c2, oc, vs, tq, q3, q4, q5, q6⟩
    · exact .inl q
    · cases q3
      exact .inr ⟨c', q1, ho _ q2, c', oc, vs, tq, rfl, k _ _ (.inr q2) q4, q5, q6⟩
  | met f y =>
    have e : h.get? a = some (PySem.W.methodObj (.ref f) (.ref y)) := x
    show h'.get? a = some (PySem.W.methodObj (.ref f) (.ref y))
    exact k a _ (.inl rfl) e
  | ext φ => obtain ⟨p, ⟨o, e⟩, st⟩ := x; exact ⟨st _ _ p fun o q => k _ _ (.inl rfl) q, ⟨o, k _ _ (.inl rfl) e⟩, st⟩
theorem HOk.lt (x : HOk P w H h) (e : H a = some o) : a < h.objs.size := (x a o e).lt
theorem HOk.fresh (x : HOk P w H h) (e : h.objs.size ≤ a) : H a = none := by
  cases q : H a with
  | none => rfl
  | some u => exact absurd (Nat.lt_of_lt_of_le (x.lt q) e) (Nat.lt_irrefl _)
theorem HOk.kept (x : HOk P w H h) (k : ∀ b u, h.get? b = some u → h'.get? b = some u) : HOk P w H h' := fun a o e =>
  (x a o e).stay (fun b u _ q => k b u q) (fun _ q => q) fun _ _ q => q
theorem HOk.laid (x : HOk P w H h) (k : ∀ b u, h.get? b = some u → h'.get? b = some u) (hp : h.objs.size ≤ a) (new : ObjOk P w (upd H a o) h' a o) : HOk P w (upd H a o) h' := fun b u e => by
  have hn := x.fresh hp
  by_cases hb : b = a
  · subst hb; rw [upd_same] at e; cases e; exact new
  · rw [upd_ne hb] at e
    exact (x b u e).stay (fun c v _ q => k c v q) (fun c q => by rw [upd_ne (ne_of_none q hn)]; exact q) fun c xs q => by rw [upd_ne (ne_of_none q hn)]; exact q
end
def Rd (H : Hp) (a : Addr) (u : HO) : Prop := H a = some u ∨ ∃ o, H a = some (.frz o u)
theorem Rd.ok {P : Program} {w : World} {H : Hp} {h : Heap} {a : Addr} {u : HO} (r : Rd H a u) (x : HOk P w H h) : ObjOk P w H h a u := by
  rcases r with r | ⟨o, r⟩
  · exact x a u r
  · obtain ⟨_, q⟩ := x a _ r
    exact q
def Mut : Option HO → Prop
  | some (.lst _) => True
  | some (.dK _) => True
  | some (.dT _) => True
  | some (.set _ _) => True
  | some (.ins _ _ _) => True
  | some (.ext _) => True
  | _ => False
section
variable {P : Program} {w : World} {H : Hp} {h h' : Heap} {x e : Addr} {o' : HO}
theorem HOk.write (ok : HOk P w H h) (mu : Mut (H x)) (he : e = x ∨ H e = some (.own x)) (k : ∀ b u, b ≠ e → h.get? b = some u → h'.get? b = some u) (heo : ∃ u, h'.get? e = some u)
    (new : ObjOk P w (upd H x o') h' x o') : HOk P w (upd H x o') h' := fun b u q => by
  have nown : ∀ c y, H c = some (.own y) → c ≠ x := fun c y r z => by subst z; rw [r] at mu; exact mu
  have ntup : ∀ c xs, H c = some (.tup xs) → c ≠ x := fun c xs r z => by subst z; rw [r] at mu; exact mu
  by_cases hb : b = x
  · subst hb; rw [upd_same] at q; cases q; exact new
  · rw [upd_ne hb] at q
    by_cases hbe : b = e
    · have q' : H b = some (.own x) := by
        rcases he with z | z
        · exact absurd (hbe.trans z) hb
        · rw [hbe]; exact z
      rw [q] at q'; cases q'
      obtain ⟨v, hv⟩ := heo
      exact ⟨v, by rw [hbe]; exact hv⟩
    · refine (ok b u q).stay (fun c v hc r => k c v ?_ r) (fun c r => by rw [upd_ne (nown c b r)]; exact r) fun c xs r => by rw [upd_ne (ntup c xs r)]; exact r
      rcases hc with rfl | hc
      · exact hbe
      · rintro rfl
        rcases he with z | z
        · exact nown c b hc z
        · rw [hc] at z; cases z; exact hb rfl
end
structure Un (fs ex : List Addr) (H H' : Hp) (h h' : Heap) : Prop where
  keep : ∀ b o, h.get? b = some o → H b = none → b ∉ fs → b ∉ ex → h'.get? b = some o
  slot : ∀ b o, h.get? b = some o → H b = none → b ∈ fs → b ∉ ex → ∃ sl, h'.get? b = some { o with slots := sl }
  free : ∀ b o, h.get? b = some o → H b = none → b ∉ ex → H' b = none
  there : ∀ b o, h.get? b = some o → b ∉ ex → ∃ o', h'.get? b = some o'
  tups : ∀ b xs, H b = some (.tup xs) → H' b = some (.tup xs)
  frzs : ∀ b o u, H b = some (.frz o u) → H' b = some (.frz o u)
  tbls : ∀ b ps, H b = some (.tbl ps) → H' b = some (.tbl ps)
section
variable {fs fs' ex ex' : List Addr} {H H1 H2 : Hp} {h h1 h2 h' : Heap} {a x e : Addr} {o : HO}
theorem Un.any (u : Un fs ex H H1 h h1) {b : Addr} {ob : Obj} (q : h.get? b = some ob) (n : H b = none) (hx : b ∉ ex) : ∃ sl, h1.get? b = some { ob with slots := sl } := by
  by_cases hb : b ∈ fs
  · exact u.slot b ob q n hb hx
  · exact ⟨ob.slots, u.keep b ob q n hb hx⟩
theorem Un.kept (k : ∀ b u, h.get? b = some u → h'.get? b = some u) : Un fs ex H H h h' :=
  ⟨fun b ob q _ _ _ => k b ob q, fun b ob q _ _ _ => ⟨ob.slots, k b ob q⟩, fun _ _ _ n _ => n, fun b ob q _ => ⟨ob, k b ob q⟩, fun _ _ q => q, fun _ _ _ q => q, fun _ _ q => q⟩
theorem Un.refl : Un fs ex H H h h := Un.kept fun _ _ q => q
theorem Un.laid (k : ∀ b u, h.get? b = some u → h'.get? b = some u) (hp : h.objs.size ≤ a) (hn : H a = none) : Un fs ex H (upd H a o) h h' where
  keep := fun b u q _ _ _ => k b u q
  slot := fun b u q _ _ _ => ⟨u.slots, k b u q⟩
  free := fun b u q n _ => by rw [upd_ne (Nat.ne_of_lt (Nat.lt_of_lt_of_le (Heap.lt_size q) hp))]; exact n
  there := fun b u q _ => ⟨u, k b u q⟩
  tups := fun b xs q => by rw [upd_ne (ne_of_none q hn)]; exact q
  frzs := fun b u xs q => by rw [upd_ne (ne_of_none q hn)]; exact q
  tbls := fun b ps q => by rw [upd_ne (ne_of_none q hn)]; exact q
theorem Un.write (mu : Mut (H x)) (he : e = x ∨ H e = some (.own x)) (k : ∀ b u, b ≠ e → h.get? b = some u → h'.get? b = some u) (heo : ∃ u, h'.get? e = some u) : Un fs ex H (upd H x o) h h' := by
  have hx : ∀ b, H b = none → b ≠ x := fun b n z => by subst z; rw [n] at mu; exact mu
  have hb : ∀ b, H b = none → b ≠ e := fun b n z => by
    subst z
    rcases he with r | r
    · exact hx b n r
    · rw [n] at r; cases r
  have hm : ∀ b u, H b = some u → ¬ Mut (some u) → b ≠ x := fun b u q nm z => by subst z; rw [q] at mu; exact nm mu
  refine ⟨fun b u q n _ _ => k b u (hb b n) q, fun b u q n _ _ => ⟨u.slots, k b u (hb b n) q⟩, fun b u q n _ => by rw [upd_ne (hx b n)]; exact n, fun b u q _ => ?_,
    fun b xs q => by rw [upd_ne (hm b _ q fun z => z)]; exact q, fun b u xs q => by rw [upd_ne (hm b _ q fun z => z)]; exact q, fun b ps q => by rw [upd_ne (hm b _ q fun z => z)]; exact q⟩
  by_cases hbe : b = e
  · subst hbe; exact heo
  · exact ⟨u, k b u hbe q⟩
end
def trk (h : Heap) (H : Hp) : List Addr := (List.range h.objs.size).filter fun a => (H a).isSome
def hidT (h : Heap) (H : Hp) : Heap := PySem.W.hideAll h (trk h H)
theorem hidT_size (h : Heap) (H : Hp) : (hidT h H).objs.size = h.objs.size := PySem.W.hideAll_size _ _
theorem hidT_get {h : Heap} {H : Hp} {b : Addr} {o : Obj} (e : h.get? b = some o) (n : H b = none) : (hidT h H).get? b = some o :=
  PySem.W.hideAll_get _ e fun hm => by
    have q : (H b).isSome = true := (List.mem_filter.mp hm).2
    rw [n] at q; simp at q
theorem of_hidT {h : Heap} {H : Hp} {b : Addr} {o : Obj} (e : (hidT h H).get? b = some o) : h.get? b = some o ∧ H b = none := by
  have e' : h.get? b = some o := PySem.W.of_hideAll (trk h H) e
  refine ⟨e', ?_⟩
  cases q : H b with
  | none => rfl
  | some x =>
    have hm : b ∈ trk h H := List.mem_filter.mpr ⟨List.mem_range.mpr (Heap.lt_size e'), by simp [q]⟩
    have z : (hidT h H).get? b = none := PySem.W.hideAll_none (trk h H) hm
    rw [z] at e; cases e
def allNews (g h : Heap) (L : Addr) : List (Addr × Obj) := (List.range h.objs.size).filterMap fun a => if a = L ∨ (g.get? a).isSome = true then none else (h.get? a).map fun o => (a, o)
theorem mem_allNews {g h : Heap} {L a : Addr} {o : Obj} (h1 : a ≠ L) (h2 : g.get? a = none) (h3 : h.get? a = some o) : (a, o) ∈ allNews g h L :=
  List.mem_filterMap.mpr ⟨a, List.mem_range.mpr (Heap.lt_size h3), by simp [h1, h2, h3]⟩
theorem of_mem_allNews {g h : Heap} {L : Addr} {p : Addr × Obj} (hp : p ∈ allNews g h L) : p.1 ≠ L ∧ g.get? p.1 = none ∧ h.get? p.1 = some p.2 := by
  obtain ⟨b, _, e⟩ := List.mem_filterMap.mp hp
  split at e
  · cases e
  · rename_i hn
    cases q : h.get? b with
    | none => rw [q] at e; simp at e
    | some u =>
      rw [q] at e
      simp only [Option.map_some, Option.some.injEq] at e
      subst e
      refine ⟨fun z => hn (.inl z), ?_, q⟩
      show g.get? b = none
      cases r : g.get? b with
      | none => rfl
      | some v => exact (hn (.inr (by simp [r]))).elim
theorem news_all {g h : Heap} {L : Addr} : News g L h (allNews g h L) := fun p hp => let ⟨a, b, c⟩ := of_mem_allNews hp; ⟨c, a, b⟩
end L2
namespace L2
open PySem PySem.Spec PyProof.Rows
structure Mod (K : PySem.W.Frag) (mg : Str → Option Value) (base : Heap) : Prop where
  kin : K.In base
  glob : base.Ns mainGlobals mg
  blt : ∃ mb, base.Ns builtinsNs mb ∧ ∀ x : Str, x ≠ "__name__" → mb x = bootBuiltins x
  nolimit : base.NoLimit
structure Cx where
  prog : Program
  w : World
  K : PySem.W.Frag
  mg : Str → Option Value
  base : Heap
  A : Around
  N : List Str
  s_0 : Shared
  H_0 : Hp
  env : Env
  outer : List Env
  stack : List Env
  ex : List Addr
  fn : Str → Bool
  calm : Bool
  pn : List (Addr × Obj)
  xe : Value → Shared → Prop
def frs (l : List Env) : List Addr := l.filterMap (·.frame)
abbrev Cx.fs (X : Cx) : List Addr := frs X.outer
def Vis (sc : Scope) (x : Str) : Prop := sc.names.lookup x = some .local ∨ sc.names.lookup x = some .cell ∨ sc.names.lookup x = some .free
def Loc (sc : Scope) (x : Str) : Prop := sc.names.lookup x = some .local ∨ sc.names.lookup x = some .cell
def Look (env : Env) (h : Heap) (m : Str → Option Value) (x : Str) (u : Value) : Prop :=
  (env.kindOf x = some .local ∧ m x = some u) ∨ ((env.kindOf x = some .cell ∨ env.kindOf x = some .free) ∧ ∃ c, env.cells.lookup x = some c ∧ h.IsCell c (some u))
structure Cx.Ok (X : Cx) : Prop where
  mod : Mod X.K X.mg X.base
  kind : X.env.scope.kind = .function
  glob : X.env.globals = mainGlobals
  blt : X.env.builtins = builtinsNs
  above : X.s_0.heap.objs.size ≤ X.env.locals
  inj : ∀ x y c, X.env.cells.lookup x = some c → X.env.cells.lookup y = some c → x = y
  has : ∀ x, (X.env.kindOf x = some .cell ∨ X.env.kindOf x = some .free) → ∃ c, X.env.cells.lookup x = some c
  cab : ∀ x c, X.fn x = true → X.env.cells.lookup x = some c → X.s_0.heap.objs.size ≤ c
  hd : X.calm = true → X.A.handled = none
  frames : X.A.frames = some X.stack
  stk : X.stack = X.outer ∨ (X.stack = X.env :: X.outer ∧ X.env.frame = some X.env.locals)
  exf : ∀ b ∈ X.ex, b ≠ X.env.locals ∧ ∀ x c, X.env.cells.lookup x = some c → c ≠ b
  bs : ∀ b o, X.base.get? b = some o → X.s_0.heap.get? b = some o ∧ X.H_0 b = none
  bsz : X.base.objs.size ≤ X.s_0.heap.objs.size
  noex : ∀ b o, X.base.get? b = some o → b ∉ X.ex
  exfs : ∀ b ∈ X.ex, b ∉ X.fs
  funs : X.s_0.heap.FunFrames X.base X.outer
  frf : ∀ b ∈ X.fs, X.H_0 b = none
structure Inv (X : Cx) (pins : List (Addr × Obj)) (σ : List (Option V)) (H : Hp) (s : Shared) : Prop where
  ok : X.Ok
  os : s.os = X.s_0.os
  bare : AllBare s.gens
  base : Un X.fs X.ex X.H_0 H X.s_0.heap s.heap
  loc : ∃ m, s.heap.Ns X.env.locals m ∧ ∀ (i : Nat) (x : Str) (v : V), X.N[i]? = some x → σ[i]? = some (some v) → Vis X.env.scope x → ∃ u, RelV v u ∧ Look X.env s.heap m x u
  cell : ∀ x c, X.env.cells.lookup x = some c → ∃ v, s.heap.IsCell c v
  free : H X.env.locals = none
  freeC : ∀ x c, X.env.cells.lookup x = some c → H c = none
  pin : ∀ p ∈ X.pn ++ pins, s.heap.get? p.1 = some p.2 ∧ H p.1 = none ∧ p.1 ≠ X.env.locals ∧ p.1 ∉ X.fs ∧ ∀ v, p.2.data ≠ .cell v
  hok : HOk X.prog X.w H s.heap
  len : σ.length = X.N.length
section
variable {X : Cx} {pins : List (Addr × Obj)} {σ : List (Option V)} {H H' : Hp} {s : Shared} {h' : Heap}
theorem Cx.Ok.nofr (ok : X.Ok) {b : Addr} {o : Obj} (e : X.base.get? b = some o) : b ∉ X.fs := fun hb => by
  have := (ok.funs.mem hb).1
  rw [e] at this; cases this
theorem Inv.bs (I : Inv X pins σ H s) : ∀ b o, X.base.get? b = some o → s.heap.get? b = some o ∧ H b = none := fun b o e =>
  ⟨I.base.keep b o (I.ok.bs b o e).1 (I.ok.bs b o e).2 (I.ok.nofr e) (I.ok.noex b o e), I.base.free b o (I.ok.bs b o e).1 (I.ok.bs b o e).2 (I.ok.noex b o e)⟩
theorem Inv.bk (I : Inv X pins σ H s) : ∀ b o, X.base.get? b = some o → s.heap.get? b = some o := fun b o e => (I.bs b o e).1
theorem Inv.mod (I : Inv X pins σ H s) : Mod X.K X.mg X.base := I.ok.mod
theorem Inv.kIn (I : Inv X pins σ H s) : X.K.In s.heap := I.ok.mod.kin.keeps I.bk
theorem Inv.nolimit (I : Inv X pins σ H s) : s.heap.NoLimit := I.ok.mod.nolimit.keeps I.bk
theorem Inv.lt (I : Inv X pins σ H s) : X.env.locals < s.heap.objs.size := let ⟨_, hn, _⟩ := I.loc; hn.lt
theorem Inv.sz (I : Inv X pins σ H s) : X.s_0.heap.objs.size ≤ s.heap.objs.size := Nat.le_trans I.ok.above (Nat.le_of_lt I.lt)
theorem Inv.nofs (I : Inv X pins σ H s) {a : Addr} (h : s.heap.objs.size ≤ a) : a ∉ X.fs := fun hb => by
  obtain ⟨_, o, ho, _⟩ := I.ok.funs.mem hb
  exact absurd (Nat.lt_of_lt_of_le (Heap.lt_size ho) (Nat.le_trans I.sz h)) (Nat.lt_irrefl _)
theorem Inv.cne (I : Inv X pins σ H s) : ∀ x c, X.env.cells.lookup x = some c → c ≠ X.env.locals := fun x c e z => by
  obtain ⟨v, o, ho, hd⟩ := I.cell x c e
  obtain ⟨m, ⟨o', es, ep, ho', hd', _⟩, _⟩ := I.loc
  rw [z, ho'] at ho; cases ho; rw [hd'] at hd; cases hd
theorem Inv.funs (I : Inv X pins σ H s) : s.heap.FunFrames X.base X.outer := by
  have all : ∀ (l : List Env), (∀ b ∈ frs l, b ∈ X.fs) → X.s_0.heap.FunFrames X.base l → s.heap.FunFrames X.base l := by
    intro l
    induction l with
    | nil => intro _ _; trivial
    | cons env r ih =>
      intro hs hl
      obtain ⟨hk, ⟨L, o, hf, hn, ho, hd⟩, hr⟩ := hl
      have hL : L ∈ X.fs := hs L (by unfold frs; rw [List.filterMap_cons, hf]; exact List.mem_cons_self)
      obtain ⟨sl, e⟩ := I.base.slot L o ho (I.ok.frf L hL) hL fun z => I.ok.exfs L z hL
      exact ⟨hk, ⟨L, _, hf, hn, e, hd⟩, ih (fun b hb => hs b (by unfold frs; rw [List.filterMap_cons, hf]; exact List.mem_cons_of_mem _ hb)) hr⟩
  exact all X.outer (fun _ hb => hb) I.ok.funs
theorem Inv.stack (I : Inv X pins σ H s) : s.heap.FunFrames X.base X.stack := by
  rcases I.ok.stk with e | ⟨e, hf⟩
  · rw [e]; exact I.funs
  · rw [e]
    obtain ⟨m, hn, _⟩ := I.loc
    refine .cons (by rw [I.ok.kind]; decide) hf hn ?_ I.funs
    exact Heap.get?_none_of_le (Nat.le_trans I.ok.bsz I.ok.above)
theorem Inv.stkSub (I : Inv X pins σ H s) : ∀ b ∈ frs X.stack, b ∈ X.env.locals :: X.fs := fun b hb => by
  rcases I.ok.stk with e | ⟨e, hf⟩
  · rw [e] at hb; exact List.mem_cons_of_mem _ hb
  · rw [e] at hb
    unfold frs at hb
    rw [List.filterMap_cons, hf] at hb
    exact hb
theorem Inv.stkFree (I : Inv X pins σ H s) : ∀ b ∈ frs X.stack, H b = none := fun b hb => by
  rcases List.mem_cons.mp (I.stkSub b hb) with e | hb
  · rw [e]; exact I.free
  · obtain ⟨_, o, ho, _⟩ := I.ok.funs.mem hb
    exact I.base.free b o ho (I.ok.frf b hb) fun z => I.ok.exfs b z hb
theorem Inv.step {g' : Array GenState} {t' : Nat} {d' : Drawn} {ch : List Addr} (I : Inv X pins σ H s)
    (hch : ∀ b ∈ ch, (b ∈ X.ex ∨ X.s_0.heap.objs.size ≤ b) ∧ b ≠ X.env.locals ∧ (∀ x c, X.env.cells.lookup x = some c → c ≠ b) ∧ ∀ p ∈ X.pn ++ pins, p.1 ≠ b)
    (keep : ∀ b o, b ≠ X.env.locals → b ∉ X.fs → b ∉ ch → s.heap.get? b = some o → H b = none → h'.get? b = some o)
    (slot : ∀ b o, b ≠ X.env.locals → b ∈ X.fs → b ∉ ch → s.heap.get? b = some o → H b = none → ∃ sl, h'.get? b = some { o with slots := sl }) (free : ∀ b o, b ∉ ch → s.heap.get? b = some o → H b = none → H' b = none)
    (there : ∀ b o, b ∉ ch → s.heap.get? b = some o → ∃ o', h'.get? b = some o')
    (tups : ∀ b xs, H b = some (.tup xs) → H' b = some (.tup xs)) (frzs : ∀ b o u, H b = some (.frz o u) → H' b = some (.frz o u)) (tbls : ∀ b ps, H b = some (.tbl ps) → H' b = some (.tbl ps))
    (ns : ∀ m, s.heap.Ns X.env.locals m → h'.Ns X.env.locals m) (hok : HOk X.prog X.w H' h') (hg : AllBare g') :
    Inv X pins σ H' { s with heap := h', gens := g', drawn := d', toks := t' } := by
  have neL : ∀ b o, X.s_0.heap.get? b = some o → b ≠ X.env.locals := fun b o e => Nat.ne_of_lt (Nat.lt_of_lt_of_le (Heap.lt_size e) I.ok.above)
  have neC : ∀ b o, X.s_0.heap.get? b = some o → b ∉ X.ex → b ∉ ch := fun b o e hx hb => by
    rcases (hch b hb).1 with z | z
    · exact hx z
    · exact absurd (Nat.lt_of_lt_of_le (Heap.lt_size e) z) (Nat.lt_irrefl _)
  have cellK : ∀ x c, X.env.cells.lookup x = some c → ∀ v, s.heap.IsCell c v → h'.IsCell c v := fun x c e v ⟨o, ho, hd⟩ => by
    have nch : c ∉ ch := fun z => (hch c z).2.2.1 x c e rfl
    by_cases hc : c ∈ X.fs
    · obtain ⟨sl, q⟩ := slot c o (I.cne x c e) hc nch ho (I.freeC x c e)
      exact ⟨_, q, hd⟩
    · exact ⟨o, keep c o (I.cne x c e) hc nch ho (I.freeC x c e), hd⟩
  refine ⟨I.ok, I.os, hg, ⟨fun b o e n hb hx => ?_, fun b o e n hb hx => ?_, fun b o e n hx => ?_, fun b o e hx => ?_, fun b xs e => tups b xs (I.base.tups b xs e), fun b o xs e => frzs b o xs (I.base.frzs b o xs e), fun b ps e => ?_⟩, ?_, fun x c e => ?_, ?_, fun x c e => ?_, fun p hp => ?_, hok, I.len⟩
  · exact keep b o (neL b o e) hb (neC b o e hx) (I.base.keep b o e n hb hx) (I.base.free b o e n hx)
  · obtain ⟨sl, e1⟩ := I.base.slot b o e n hb hx
    obtain ⟨sl', e2⟩ := slot b _ (neL b o e) hb (neC b o e hx) e1 (I.base.free b o e n hx)
    exact ⟨sl', e2⟩
  · obtain ⟨o', e1⟩ := I.base.there b o e hx
    exact free b o' (neC b o e hx) e1 (I.base.free b o e n hx)
  · obtain ⟨o', e1⟩ := I.base.there b o e hx
    exact there b o' (neC b o e hx) e1
  · exact tbls b ps (I.base.tbls b ps e)
  · obtain ⟨m, hn, hl⟩ := I.loc
    refine ⟨m, ns m hn, fun i x v e1 e2 e3 => ?_⟩
    obtain ⟨u, r, l⟩ := hl i x v e1 e2 e3
    refine ⟨u, r, ?_⟩
    rcases l with l | ⟨k, c, e, z⟩
    · exact .inl l
    · exact .inr ⟨k, c, e, cellK x c e _ z⟩
  · obtain ⟨v, z⟩ := I.cell x c e
    exact ⟨v, cellK x c e v z⟩
  · obtain ⟨m, ⟨o, _, _, ho, _⟩, _⟩ := I.loc
    exact free _ o (fun z => (hch _ z).2.1 rfl) ho I.free
  · obtain ⟨v, o, ho, hd⟩ := I.cell x c e
    exact free c o (fun z => (hch c z).2.2.1 x c e rfl) ho (I.freeC x c e)
  · obtain ⟨e, n, ne, nf, d⟩ := I.pin p hp
    have nch : p.1 ∉ ch := fun z => (hch p.1 z).2.2.2 p hp rfl
    exact ⟨keep p.1 p.2 ne nf nch e n, free p.1 p.2 nch e n, ne, nf, d⟩
theorem Inv.un {t' : Nat} (I : Inv X pins σ H s) (u : Un X.fs [] H H' s.heap h') (hok : HOk X.prog X.w H' h') : Inv X pins σ H' { s with heap := h', toks := t' } := by
  obtain ⟨m, ⟨o, es, ep, ho, r⟩, _⟩ := id I.loc
  obtain ⟨sl, hL⟩ := u.any ho I.free (by simp)
  exact I.step (g' := s.gens) (d' := s.drawn) (ch := []) (fun _ z => nomatch z) (fun b o _ hb _ e n => u.keep b o e n hb (by simp)) (fun b o _ hb _ e n => u.slot b o e n hb (by simp)) (fun b o _ e n => u.free b o e n (by simp)) (fun b o _ e => u.there b o e (by simp)) u.tups u.frzs u.tbls (fun m' hm => by
    obtain ⟨o', es', ep', ho', r'⟩ := hm
    rw [ho] at ho'; cases ho'
    exact ⟨_, es', ep', hL, r'⟩) hok I.bare
theorem Inv.call {g' : Array GenState} {t' : Nat} {d' : Drawn} {ch : List Addr} (I : Inv X pins σ H s) (u : Un (frs X.stack) ch H H' s.heap h') (hok : HOk X.prog X.w H' h') (hg : AllBare g')
    (hch : ∀ b ∈ ch, (b ∈ X.ex ∨ X.s_0.heap.objs.size ≤ b) ∧ b ≠ X.env.locals ∧ (∀ x c, X.env.cells.lookup x = some c → c ≠ b) ∧ ∀ p ∈ X.pn ++ pins, p.1 ≠ b) :
    Inv X pins σ H' { s with heap := h', gens := g', drawn := d', toks := t' } := by
  obtain ⟨m, ⟨o, es, ep, ho, r⟩, _⟩ := id I.loc
  obtain ⟨sl, hL⟩ := u.any ho I.free fun z => (hch _ z).2.1 rfl
  exact I.step (ch := ch) hch (fun b o hL hb hc e n => u.keep b o e n (fun z => (List.mem_cons.mp (I.stkSub b z)).elim hL hb) hc) (fun b o _ _ hc e n => u.any e n hc) (fun b o hc e n => u.free b o e n hc) (fun b o hc e => u.there b o e hc) u.tups u.frzs u.tbls (fun m' hm => by
    obtain ⟨o', es', ep', ho', r'⟩ := hm
    rw [ho] at ho'; cases ho'
    exact ⟨_, es', ep', hL, r'⟩) hok hg
theorem Inv.turned {t' : Nat} {it : Addr} (I : Inv X pins σ H s) (k : ∀ b o, b ≠ it → s.heap.get? b = some o → h'.get? b = some o) (hn : H it = none) (hL : it ≠ X.env.locals)
    (h1 : it ∈ X.ex ∨ X.s_0.heap.objs.size ≤ it) (h2 : ∀ x c, X.env.cells.lookup x = some c → c ≠ it) (h3 : ∀ p ∈ X.pn ++ pins, p.1 ≠ it) : Inv X pins σ H { s with heap := h', toks := t' } := by
  have nit : ∀ b u, H b = some u → b ≠ it := fun b u e z => by rw [z, hn] at e; cases e
  refine I.step (g' := s.gens) (d' := s.drawn) (ch := [it]) (fun b hb => ?_) (fun b o _ _ hc e _ => k b o (fun z => hc (by simp [z])) e) (fun b o _ _ hc e _ => ⟨o.slots, k b o (fun z => hc (by simp [z])) e⟩) (fun _ _ _ _ n => n)
    (fun b o hc e => ⟨o, k b o (fun z => hc (by simp [z])) e⟩) (fun _ _ e => e) (fun _ _ _ e => e) (fun _ _ e => e) (fun m hm => ?_) (fun b u e => ?_) I.bare
  · have e : b = it := by simpa using hb
    subst e
    exact ⟨h1, hL, h2, h3⟩
  · obtain ⟨o, es, ep, ho, r⟩ := hm
    exact ⟨o, es, ep, k _ o (Ne.symm hL) ho, r⟩
  · refine (I.hok b u e).stay (fun c v hc q => k c v ?_ q) (fun _ q => q) fun _ _ q => q
    rcases hc with z | z
    · rw [z]; exact nit b u e
    · exact nit c _ z
theorem Inv.tok (I : Inv X pins σ H s) (t : Nat) : Inv X pins σ H { s with toks := t } := I.un (h' := s.heap) (t' := t) Un.refl I.hok
theorem Inv.kept {t' : Nat} (I : Inv X pins σ H s) (k : ∀ b u, s.heap.get? b = some u → h'.get? b = some u) : Inv X pins σ H { s with heap := h', toks := t' } := I.un (Un.kept k) (I.hok.kept k)
theorem Inv.laid {a : Addr} {o : HO} {t' : Nat} (I : Inv X pins σ H s) (k : ∀ b u, s.heap.get? b = some u → h'.get? b = some u) (hp : s.heap.objs.size ≤ a) (new : ObjOk X.prog X.w (upd H a o) h' a o) :
    Inv X pins σ (upd H a o) { s with heap := h', toks := t' } := I.un (Un.laid k hp (I.hok.fresh hp)) (I.hok.laid k hp new)
theorem Inv.write {x e : Addr} {o : HO} {t' : Nat} (I : Inv X pins σ H s) (mu : Mut (H x)) (he : e = x ∨ H e = some (.own x)) (k : ∀ b u, b ≠ e → s.heap.get? b = some u → h'.get? b = some u) (heo : ∃ u, h'.get? e = some u)
    (new : ObjOk X.prog X.w (upd H x o) h' x o) : Inv X pins σ (upd H x o) { s with heap := h', toks := t' } := I.un (Un.write mu he k heo) (I.hok.write mu he k heo new)
theorem Inv.weak {σ' : List (Option V)} (I : Inv X pins σ H s) (hl : σ'.length = σ.length) (w : ∀ (i : Nat) v, σ'[i]? = some (some v) → σ[i]? = some (some v)) : Inv X pins σ' H s :=
  ⟨I.ok, I.os, I.bare, I.base, let ⟨m, hn, hl'⟩ := I.loc; ⟨m, hn, fun i x v e1 e2 e3 => hl' i x v e1 (w i v e2) e3⟩, I.cell, I.free, I.freeC, I.pin, I.hok, hl.trans I.len⟩
theorem Inv.pins_of {pins' : List (Addr × Obj)} (I : Inv X pins σ H s) (h : ∀ p ∈ pins', s.heap.get? p.1 = some p.2 ∧ H p.1 = none ∧ p.1 ≠ X.env.locals ∧ p.1 ∉ X.fs ∧ ∀ v, p.2.data ≠ .cell v) : Inv X pins' σ H s :=
  ⟨I.ok, I.os, I.bare, I.base, I.loc, I.cell, I.free, I.freeC, fun p hp => (List.mem_append.mp hp).elim (fun z => I.pin p (List.mem_append_left _ z)) (h p), I.hok, I.len⟩
theorem nodup_ix {N : List Str} (hN : N.Nodup) {i j : Nat} {x : Str} (a : N[i]? = some x) (b : N[j]? = some x) : i = j := by
  obtain ⟨h1, e1⟩ := List.getElem?_eq_some_iff.mp a
  obtain ⟨h2, e2⟩ := List.getElem?_eq_some_iff.mp b
  exact (List.getElem_inj hN).mp (e1.trans e2.symm)
theorem store_ok2 {M : Model} {A : Around} {E : Value → Shared → Prop} {i : Nat} {x : Str} {v : V} {u : Value} {Q : Unit → Shared → Prop} (I : Inv X pins σ H s) (hN : X.N.Nodup) (hi : X.N[i]? = some x) (hx : Loc X.env.scope x) (r : RelV v u)
    (h : ∀ s', Inv X pins (σ.set i (some v)) H s' → (∃ a, Heap.SameBut a s.heap s'.heap ∧ (a = X.env.locals ∨ X.env.cells.lookup x = some a)) → Q () s') (hf : X.fn x = true ∨ X.env.scope.names.lookup x = some .local := by first | exact .inl rfl | exact .inr rfl | assumption) : wpAny M A (storeName X.env x u) Q E s := by
  obtain ⟨m, hn, hl⟩ := id I.loc
  have hcls : (X.env.scope.kind == .class || (X.env.scope.kind == .module && X.env.locals != X.env.globals)) = false := by rw [I.ok.kind]; rfl
  have hiσ : i < σ.length := by rw [I.len]; exact (List.getElem?_eq_some_iff.mp hi).1
  have cne := I.cne
  have tracked : ∀ {a : Addr} {h' : Heap}, (∃ o, s.heap.get? a = some o ∧ H a = none) → Heap.SameBut a s.heap h' → HOk X.prog X.w H h' := fun {a h'} ha hs b ob e => by
    obtain ⟨_, _, hfree⟩ := ha
    refine (I.hok b ob e).stay (fun c w' hc q => (hs.2 c ?_).trans q) (fun _ q => q) fun _ _ q => q
    rintro rfl
    rcases hc with rfl | hc
    · rw [hfree] at e; cases e
    · rw [hfree] at hc; cases hc
  rcases hx with hk | hk
  · refine wpAny_storeName_local hk hn (fun h' hn' hs => ?_) hcls
    obtain ⟨oL, _, _, hoL, _⟩ := id hn
    refine h _ ⟨I.ok, I.os, I.bare, ⟨fun b o e n hb hx => ?_, fun b o e n hb hx => ?_, I.base.free, fun b o e hx => ?_, I.base.tups, I.base.frzs, I.base.tbls⟩, ⟨_, hn', fun j y v' e1 e2 e3 => ?_⟩, fun y c e => ?_, I.free, I.freeC, fun p hp => ?_, tracked ⟨oL, hoL, I.free⟩ hs, by simpa using I.len⟩ ⟨_, hs, .inl rfl⟩
    · exact (hs.2 b (Nat.ne_of_lt (Nat.lt_of_lt_of_le (Heap.lt_size e) I.ok.above))).trans (I.base.keep b o e n hb hx)
    · obtain ⟨sl, e1⟩ := I.base.slot b o e n hb hx
      exact ⟨sl, (hs.2 b (Nat.ne_of_lt (Nat.lt_of_lt_of_le (Heap.lt_size e) I.ok.above))).trans e1⟩
    · obtain ⟨o', e1⟩ := I.base.there b o e hx
      exact ⟨o', (hs.2 b (Nat.ne_of_lt (Nat.lt_of_lt_of_le (Heap.lt_size e) I.ok.above))).trans e1⟩
    · by_cases hj : j = i
      · subst hj
        rw [hi] at e1; cases e1
        rw [List.getElem?_set_self hiσ] at e2
        cases e2
        exact ⟨u, r, .inl ⟨hk, by simp⟩⟩
      · rw [List.getElem?_set_ne (Ne.symm hj)] at e2
        obtain ⟨u', r', q⟩ := hl j y v' e1 e2 e3
        refine ⟨u', r', ?_⟩
        rcases q with ⟨k, e⟩ | ⟨k, c, e, z⟩
        · refine .inl ⟨k, ?_⟩
          have : y ≠ x := fun e => hj (nodup_ix hN e1 (e ▸ hi))
          simp [this, e]
        · exact .inr ⟨k, c, e, z.sameBut hs (cne y c e)⟩
    · obtain ⟨w', z⟩ := I.cell y c e
      exact ⟨w', z.sameBut hs (cne y c e)⟩
    · obtain ⟨e, n, ne, nf, d⟩ := I.pin p hp
      exact ⟨(hs.2 p.1 ne).trans e, n, ne, nf, d⟩
  · have hfn : X.fn x = true := by
      rcases hf with z | z
      · exact z
      · rw [z] at hk; cases hk
    obtain ⟨c, hc⟩ := I.ok.has x (.inl hk)
    obtain ⟨w', z⟩ := I.cell x c hc
    refine wpAny_storeName_cell I.ok.kind hk hc z (fun h' hc' hs => ?_)
    obtain ⟨oc, hoc, hocd⟩ := id z
    refine h { s with heap := h' } ⟨I.ok, I.os, I.bare, ⟨fun b o e n hb hx => ?_, fun b o e n hb hx => ?_, I.base.free, fun b o e hx => ?_, I.base.tups, I.base.frzs, I.base.tbls⟩, ⟨m, hn.sameBut hs (Ne.symm (cne x c hc)), fun j y v' e1 e2 e3 => ?_⟩, fun y c' e => ?_, I.free, I.freeC, fun p hp => ?_, tracked ⟨oc, hoc, I.freeC x c hc⟩ hs, by simpa using I.len⟩ ⟨c, hs, .inr hc⟩
    · exact (hs.2 b (Nat.ne_of_lt (Nat.lt_of_lt_of_le (Heap.lt_size e) (I.ok.cab x c hfn hc)))).trans (I.base.keep b o e n hb hx)
    · obtain ⟨sl, e1⟩ := I.base.slot b o e n hb hx
      exact ⟨sl, (hs.2 b (Nat.ne_of_lt (Nat.lt_of_lt_of_le (Heap.lt_size e) (I.ok.cab x c hfn hc)))).trans e1⟩
    · obtain ⟨o', e1⟩ := I.base.there b o e hx
      exact ⟨o', (hs.2 b (Nat.ne_of_lt (Nat.lt_of_lt_of_le (Heap.lt_size e) (I.ok.cab x c hfn hc)))).trans e1⟩
    · by_cases hj : j = i
      · subst hj
        rw [hi] at e1; cases e1
        rw [List.getElem?_set_self hiσ] at e2
        cases e2
        exact ⟨u, r, .inr ⟨.inl hk, c, hc, hc'⟩⟩
      · rw [List.getElem?_set_ne (Ne.symm hj)] at e2
        obtain ⟨u', r', q⟩ := hl j y v' e1 e2 e3
        refine ⟨u', r', ?_⟩
        rcases q with q | ⟨k, c', e, z'⟩
        · exact .inl q
        · refine .inr ⟨k, c', e, z'.sameBut hs ?_⟩
          rintro rfl
          exact hj (nodup_ix hN e1 (I.ok.inj _ _ _ e hc ▸ hi))
    · by_cases hcc : c' = c
      · subst hcc; exact ⟨_, hc'⟩
      · obtain ⟨w2, z2⟩ := I.cell y c' e
        exact ⟨w2, z2.sameBut hs hcc⟩
    · obtain ⟨e, n, ne, nf, d⟩ := I.pin p hp
      refine ⟨(hs.2 p.1 ?_).trans e, n, ne, nf, d⟩
      intro q
      rw [q, hoc] at e
      have q' : oc = p.2 := Option.some.inj e
      exact d w' (by rw [← q']; exact hocd)
theorem store_ok {M : Model} {A : Around} {E : Value → Shared → Prop} {i : Nat} {x : Str} {v : V} {u : Value} {Q : Unit → Shared → Prop} (I : Inv X pins σ H s) (hN : X.N.Nodup) (hi : X.N[i]? = some x) (hx : Loc X.env.scope x) (r : RelV v u)
    (h : ∀ s', Inv X pins (σ.set i (some v)) H s' → Q () s') (hf : X.fn x = true ∨ X.env.scope.names.lookup x = some .local := by first | exact .inl rfl | exact .inr rfl | assumption) : wpAny M A (storeName X.env x u) Q E s :=
  store_ok2 I hN hi hx r (fun s' I' _ => h s' I') hf
theorem Inv.call' {s' : Shared} {ch : List Addr} (I : Inv X pins σ H s) (ho : s'.os = s.os) (u : Un (frs X.stack) ch H H' s.heap s'.heap) (hok : HOk X.prog X.w H' s'.heap) (hg : AllBare s'.gens)
    (hch : ∀ b ∈ ch, (b ∈ X.ex ∨ X.s_0.heap.objs.size ≤ b) ∧ b ≠ X.env.locals ∧ (∀ x c, X.env.cells.lookup x = some c → c ≠ b) ∧ ∀ p ∈ X.pn ++ pins, p.1 ≠ b) : Inv X pins σ H' s' := by
  obtain ⟨h', g', d', t', o'⟩ := s'
  have e : o' = s.os := ho
  subst e
  exact I.call (g' := g') (t' := t') (d' := d') u hok hg hch
end
abbrev XK := Value → Option Addr → Hp → Prop
abbrev St := List (Option V)
abbrev VK := V → Hp → Prop
abbrev TE := St → Hp → VK → Prop
abbrev TT := St → Hp → (Bool → Hp → Prop) → Prop
abbrev TA := St → Hp → (List V → Hp → Prop) → Prop
structure Ends where
  nx : St → Hp → Prop
  rt : VK
  bk : St → Hp → Prop := fun _ _ => False
  ct : St → Hp → Prop := fun _ _ => False
abbrev TS := Ends → St → Hp → Prop
def EP (X : Cx) (pins : List (Addr × Obj)) (σ : St) (Q : VK) (u : Value) (s' : Shared) : Prop := ∃ v H', Inv X pins σ H' s' ∧ RelV v u ∧ Q v H'
def TP (X : Cx) (pins : List (Addr × Obj)) (σ : St) (Q : Bool → Hp → Prop) (b : Bool) (s' : Shared) : Prop := ∃ H', Inv X pins σ H' s' ∧ Q b H'
def AP (X : Cx) (pins : List (Addr × Obj)) (σ : St) (Q : List V → Hp → Prop) (us : List Value) (s' : Shared) : Prop := ∃ vs H', Inv X pins σ H' s' ∧ Vals vs us ∧ Q vs H'
def SP (X : Cx) (pins : List (Addr × Obj)) (D : Ends) (f : Flow) (s' : Shared) : Prop :=
  match f with
  | .next => ∃ σ' H', Inv X pins σ' H' s' ∧ D.nx σ' H'
  | .brk => ∃ σ' H', Inv X pins σ' H' s' ∧ D.bk σ' H'
  | .cont => ∃ σ' H', Inv X pins σ' H' s' ∧ D.ct σ' H'
  | .ret u => ∃ v σ' H', Inv X pins σ' H' s' ∧ RelV v u ∧ D.rt v H'
def PE (X : Cx) (e : Expr) (t : TE) : Prop :=
  ∀ (pins : List (Addr × Obj)) (s : Shared) (σ : St) (H : Hp) (Q : VK), Inv X pins σ H s → t σ H Q → wpAny (model X.prog X.w) X.A (eval e X.env) (EP X pins σ Q) X.xe s
def PT (X : Cx) (e : Expr) (t : TT) : Prop :=
  ∀ (pins : List (Addr × Obj)) (s : Shared) (σ : St) (H : Hp) (Q : Bool → Hp → Prop), Inv X pins σ H s → t σ H Q → wpAny (model X.prog X.w) X.A (isTrue e X.env (eval e X.env)) (TP X pins σ Q) X.xe s
def PW (X : Cx) (e : Expr) (t : TT) : Prop :=
  ∀ (whole : Sem Value) (pins : List (Addr × Obj)) (s : Shared) (σ : St) (H : Hp) (Q : Bool → Hp → Prop), Inv X pins σ H s → t σ H Q → wpAny (model X.prog X.w) X.A (isTrue e X.env whole) (TP X pins σ Q) X.xe s
theorem PW.pt {X : Cx} {e : Expr} {t : TT} (h : PW X e t) : PT X e t := h _
def PA (X : Cx) (es : List Expr) (t : TA) : Prop :=
  ∀ (pos : Pos) (pins : List (Addr × Obj)) (s : Shared) (σ : St) (H : Hp) (Q : List V → Hp → Prop), Inv X pins σ H s → t σ H Q → wpAny (model X.prog X.w) X.A (spliced (backTo pos (starEach es X.env))) (AP X pins σ Q) X.xe s
def PS (X : Cx) (st : Stmt) (t : TS) : Prop :=
  ∀ (pins : List (Addr × Obj)) (s : Shared) (σ : St) (H : Hp) (D : Ends), Inv X pins σ H s → t D σ H → wpAny (model X.prog X.w) X.A (exec st X.env) (SP X pins D) X.xe s
def PSs (X : Cx) (st : List Stmt) (t : TS) : Prop :=
  ∀ (pins : List (Addr × Obj)) (s : Shared) (σ : St) (H : Hp) (D : Ends), Inv X pins σ H s → t D σ H → wpAny (model X.prog X.w) X.A (execs st X.env) (SP X pins D) X.xe s
theorem thn {α : Type} {t : Sem α} {Q Q' : α → Shared → Prop} {M : Model} {A : Around} {E : Value → Shared → Prop} {s : Shared} (h : wpAny M A t Q E s) (hQ : ∀ a s, Q a s → Q' a s) : wpAny M A t Q' E s := wpAny_mono h hQ fun _ _ x => x
end L2
namespace L2
open PySem PySem.Spec PyProof.Rows
section
variable {X : Cx}
def tVar (i : Nat) : TE := fun σ H Q => ∃ v, σ[i]? = some (some v) ∧ Q v H
def tC (v : V) : TE := fun _ H Q => Q v H
theorem pe_var {i : Nat} {x : Str} {pos : Pos} (hN : X.N[i]? = some x) (hv : Vis X.env.scope x) (hd : (x == ("__debug__" : Str)) = false := by decide) (hcd : (x == ("__classdict__" : Str)) = false := by decide) : PE X (.Name x pos) (tVar i) := by
  intro pins s σ H Q I h
  obtain ⟨v, e, h⟩ := h
  obtain ⟨m, hn, hl⟩ := I.loc
  obtain ⟨u, r, l⟩ := hl i x v hN e hv
  have fin : EP X pins σ Q u s := ⟨v, H, I, r, h⟩
  rcases l with ⟨hk, hm⟩ | ⟨hk, c, hc, hcell⟩
  · exact wpAny_Name (wpAny_loadName_local I.ok.kind hk hn hm fin) hd
  · rcases hk with hk | hk
    · exact wpAny_Name (wpAny_loadName_cell I.ok.kind hk hc hcell fin) hd
    · exact wpAny_Name (wpAny_loadName_free I.ok.kind hk hc hcell fin hcd) hd
theorem pe_int {i j pos} : PE X (.Constant (.int i) j pos) (tC (.int i)) := fun _ _ _ H _ I h => wpAny_Constant_int ⟨.int i, H, I.tok _, ⟨_, rfl⟩, h⟩
theorem pe_bl {b j pos} : PE X (.Constant (.bool b) j pos) (tC (.bl b)) := fun _ _ _ H _ I h => Constant_bool ⟨.bl b, H, I, rfl, h⟩
def Gl (X : Cx) (x : Str) : Prop := X.env.kindOf x = some .globalImplicit
theorem ld_glob {E : Value → Shared → Prop} {pins : List (Addr × Obj)} {s : Shared} {σ : St} {H : Hp} {x : Str} {u : Value} {pos : Pos} {Q : Value → Shared → Prop} (I : Inv X pins σ H s) (hg : Gl X x) (hm : X.mg x = some u) (h : Q u s)
    (hd : (x == ("__debug__" : Str)) = false := by decide) : wpAny (model X.prog X.w) X.A (eval (.Name x pos) X.env) Q E s :=
  Calls.Name_function_global I.ok.kind hg (Calls.loadGlobal_global (by rw [I.ok.glob]; exact I.mod.glob.keeps I.bk) hm h) hd
theorem ld_blt {E : Value → Shared → Prop} {pins : List (Addr × Obj)} {s : Shared} {σ : St} {H : Hp} {x : Str} {u : Value} {pos : Pos} {Q : Value → Shared → Prop} (I : Inv X pins σ H s) (hg : Gl X x) (hm : X.mg x = none) (hv : bootBuiltins x = some u) (h : Q u s)
    (hn : x ≠ "__name__" := by decide) (hd : (x == ("__debug__" : Str)) = false := by decide) : wpAny (model X.prog X.w) X.A (eval (.Name x pos) X.env) Q E s := by
  obtain ⟨mb, h1, h2⟩ := I.mod.blt
  exact Calls.Name_function_global I.ok.kind hg (Calls.loadGlobal_builtin (by rw [I.ok.glob]; exact I.mod.glob.keeps I.bk) hm (by rw [I.ok.blt]; exact h1.keeps I.bk) ((h2 x hn).trans hv) h) hd
theorem pe_glob {x : Str} {v : V} {u : Value} {pos : Pos} (hg : Gl X x) (hm : X.mg x = some u) (r : RelV v u) (hd : (x == ("__debug__" : Str)) = false := by decide) : PE X (.Name x pos) (tC v) :=
  fun _ _ _ H _ I h => ld_glob I hg hm ⟨v, H, I, r, h⟩ hd
variable {a b : Expr} {ta tb : TE} {pos : Pos}
def tB (t : TE) : TT := fun σ H Q => t σ H fun x H1 => ∃ c, x = .bl c ∧ Q c H1
theorem pt_val {e : Expr} {t : TE} (h : PE X e t) (he : ∀ whole, isTrue e X.env whole = (do let v ← whole; standAt e.pos; holding [v] (truthy v)) := by intro _; rfl) : PT X e (tB t) := by
  intro pins s σ H Q I hw
  refine isTrue_plain (thn (h pins s σ H _ I hw) fun v s1 ⟨x, H1, I1, r1, q1⟩ => ?_) (he _)
  obtain ⟨d, rfl, q⟩ := q1
  cases r1
  exact wpAny_truthy_bool ⟨H1, I1, q⟩
variable {tA tB' : TT} {rest : List Expr}
def tOr (t u : TT) : TT := fun σ H Q => t σ H fun c H1 => if c = true then Q true H1 else u σ H1 Q
def tNot (t : TT) : TT := fun σ H Q => t σ H fun c H1 => Q (!c) H1
theorem pw_or1 (ha : PT X a tA) : PW X (.BoolOp .Or [a] pos) tA := by
  intro wh pins s σ H Q I h
  refine isTrue_or (thn (ha pins s σ H Q I h) fun c s1 e => ?_)
  cases c with
  | false => exact isTrue_or_nil e
  | true => exact e
theorem pw_or (ha : PT X a tA) (hb : PW X (.BoolOp .Or (b :: rest) pos) tB') : PW X (.BoolOp .Or (a :: b :: rest) pos) (tOr tA tB') := by
  intro wh pins s σ H Q I h
  refine isTrue_or (thn (ha pins s σ H _ I h) fun c s1 ⟨H1, I1, q1⟩ => ?_)
  cases c with
  | true => exact ⟨H1, I1, q1⟩
  | false => exact hb wh pins s1 σ H1 Q I1 q1
theorem pt_not (ha : PT X a tA) : PT X (.UnaryOp .Not a pos) (tNot tA) := by
  intro pins s σ H Q I h
  exact isTrue_not (ha pins s σ H (fun c H1 => Q (!c) H1) I h)
def tAndV (ta tb : TE) : TE := fun σ H Q => ta σ H fun x H1 => ∃ c, x = .bl c ∧ if c = true then tb σ H1 Q else Q (.bl false) H1
theorem pe_one {op} {t : TE} (h : PE X a t) : PE X (.BoolOp op [a] pos) t := fun pins s σ H Q I hw => BoolOp_one (h pins s σ H Q I hw)
theorem pe_and (ha : PE X a ta) (hb : PE X (.BoolOp .And (b :: rest) pos) tb) : PE X (.BoolOp .And (a :: b :: rest) pos) (tAndV ta tb) := by
  intro pins s σ H Q I h
  refine BoolOp_and (thn (ha pins s σ H _ I h) fun v s1 ⟨x, H1, I1, r1, q1⟩ => ?_)
  obtain ⟨c, rfl, q1⟩ := q1
  cases r1
  refine wpAny_truthy_bool ?_
  cases c with
  | true => exact hb pins s1 σ H1 Q I1 q1
  | false => exact ⟨.bl false, H1, I1, rfl, q1⟩
end
end L2
namespace L2
open PySem PySem.Spec PyProof.Rows
def SqL (K : PySem.W.Frag) (H : Hp) (a : Addr) (xs : List V) : Prop :=
  Rd H a (.lst xs) ∨
    ∃ (o : Obj) (its : Array Value) (n : Nat), K.lookup a = some o ∧ o.cls = .type "list" ∧ o.dict = none ∧ o.data = .seq its n ∧ its.size ≤ sizeLine ∧ Vals xs its.toList
def SqT (K : PySem.W.Frag) (H : Hp) (a : Addr) (xs : List V) : Prop :=
  Rd H a (.tup xs) ∨
    ∃ (o : Obj) (its : Array Value) (n : Nat), K.lookup a = some o ∧ o.cls = .type "tuple" ∧ o.data = .seq its n ∧ its.size ≤ sizeLine ∧ Vals xs its.toList
def absV : Value → Option V
  | .none => some .non
  | .bool b => some (.bl b)
  | .int i _ => some (.int i)
  | .str x _ => some (.str x)
  | .bytes b _ => some (.byt b)
  | .float b _ => some (.flt b)
  | .ref a => some (.ref a)
  | .type n => some (.ty n)
  | _ => none
theorem RelV.abs {x : V} {u : Value} (r : RelV x u) : absV u = some x := by
  cases x with
  | non => cases r; rfl
  | bl _ => cases r; rfl
  | int _ => obtain ⟨t, rfl⟩ := r; rfl
  | str _ => obtain ⟨t, rfl⟩ := r; rfl
  | byt _ => obtain ⟨t, rfl⟩ := r; rfl
  | flt _ => obtain ⟨t, rfl⟩ := r; rfl
  | ref _ => cases r; rfl
  | ty _ => cases r; rfl
theorem RelV.inj {x y : V} {u : Value} (r : RelV x u) (q : RelV y u) : x = y := Option.some.inj (r.abs.symm.trans q.abs)
theorem Vals.inj : ∀ {xs ys : List V} {us : List Value}, Vals xs us → Vals ys us → xs = ys
  | _, _, _, .nil, .nil => rfl
  | _, _, _, .cons r t, .cons r' t' => by rw [r.inj r', Vals.inj t t']
section
variable {X : Cx} {pins : List (Addr × Obj)} {σ : St} {H : Hp} {s : Shared} {a : Addr} {xs ys : List V}
theorem SqL.of {K : PySem.W.Frag} (h : H a = some (.lst xs)) : SqL K H a xs := .inl (.inl h)
theorem SqT.of {K : PySem.W.Frag} (h : H a = some (.tup xs)) : SqT K H a xs := .inl (.inl h)
theorem Inv.list (I : Inv X pins σ H s) (h : SqL X.K H a xs) : ∃ its : List Value, Vals xs its ∧ PlainL s.heap a its.toArray ∧ xs.length ≤ sizeLine := by
  rcases h with h | ⟨o, its, n, hk, hc, hd, hs, hz, r⟩
  · obtain ⟨z, its, n, r, e⟩ := h.ok I.hok
    exact ⟨its, r, ⟨_, n, e, rfl, rfl, rfl⟩, z⟩
  · refine ⟨its.toList, r, ⟨o, n, I.kIn a o hk, hc, hd, by simpa using hs⟩, ?_⟩
    have e := r.length
    simp only [Array.length_toList] at e
    omega
theorem Inv.tuple (I : Inv X pins σ H s) (h : SqT X.K H a xs) : ∃ its : List Value, Vals xs its ∧ IsTup s.heap a its.toArray ∧ xs.length ≤ sizeLine := by
  rcases h with h | ⟨o, its, n, hk, hc, hs, hz, r⟩
  · obtain ⟨z, its, r, p⟩ := h.ok I.hok
    exact ⟨its, r, p, z⟩
  · refine ⟨its.toList, r, ⟨o, I.kIn a o hk, hc, n, by simpa using hs⟩, ?_⟩
    have e := r.length
    simp only [Array.length_toList] at e
    omega
theorem Inv.list_inj (I : Inv X pins σ H s) (h : SqL X.K H a xs) (h' : SqL X.K H a ys) : xs = ys := by
  obtain ⟨its, r, ⟨o, n, e, _, _, d⟩, _⟩ := I.list h
  obtain ⟨its', r', ⟨o', n', e', _, _, d'⟩, _⟩ := I.list h'
  rw [e] at e'; cases e'
  rw [d] at d'
  injection d' with d1 _
  have : its = its' := by simpa using congrArg Array.toList d1
  subst this
  exact r.inj r'
theorem Inv.tuple_inj (I : Inv X pins σ H s) (h : SqT X.K H a xs) (h' : SqT X.K H a ys) : xs = ys := by
  obtain ⟨its, r, ⟨o, e, _, n, d⟩, _⟩ := I.tuple h
  obtain ⟨its', r', ⟨o', e', _, n', d'⟩, _⟩ := I.tuple h'
  rw [e] at e'; cases e'
  rw [d] at d'
  injection d' with d1 _
  have : its = its' := by simpa using congrArg Array.toList d1
  subst this
  exact r.inj r'
end
abbrev Cx.wish (X : Cx) (E : Value → Shared → Prop) : Cx := { X with xe := E }
abbrev Cx.nox (X : Cx) : Cx := X.wish fun _ _ => False
theorem Cx.Ok.wish {X : Cx} (ok : X.Ok) (E : Value → Shared → Prop) : (X.wish E).Ok :=
  ⟨ok.mod, ok.kind, ok.glob, ok.blt, ok.above, ok.inj, ok.has, ok.cab, ok.hd, ok.frames, ok.stk, ok.exf, ok.bs, ok.bsz, ok.noex, ok.exfs, ok.funs, ok.frf⟩
theorem Cx.Ok.unwish {X : Cx} {E : Value → Shared → Prop} (ok : (X.wish E).Ok) : X.Ok :=
  ⟨ok.mod, ok.kind, ok.glob, ok.blt, ok.above, ok.inj, ok.has, ok.cab, ok.hd, ok.frames, ok.stk, ok.exf, ok.bs, ok.bsz, ok.noex, ok.exfs, ok.funs, ok.frf⟩
section
variable {X : Cx} {pins : List (Addr × Obj)} {σ : St} {H : Hp} {s : Shared} {E : Value → Shared → Prop}
theorem Inv.wish (I : Inv X pins σ H s) (E : Value → Shared → Prop) : Inv (X.wish E) pins σ H s := ⟨I.ok.wish E, I.os, I.bare, I.base, I.loc, I.cell, I.free, I.freeC, I.pin, I.hok, I.len⟩
theorem Inv.unwish (I : Inv (X.wish E) pins σ H s) : Inv X pins σ H s := ⟨I.ok.unwish, I.os, I.bare, I.base, I.loc, I.cell, I.free, I.freeC, I.pin, I.hok, I.len⟩
theorem SP.unwish {D : Ends} {f : Flow} {s' : Shared} (h : SP (X.wish E) pins D f s') : SP X pins D f s' := by
  cases f with
  | next => obtain ⟨σ', H', I, q⟩ := h; exact ⟨σ', H', I.unwish, q⟩
  | brk => obtain ⟨σ', H', I, q⟩ := h; exact ⟨σ', H', I.unwish, q⟩
  | cont => obtain ⟨σ', H', I, q⟩ := h; exact ⟨σ', H', I.unwish, q⟩
  | ret u => obtain ⟨v, σ', H', I, r, q⟩ := h; exact ⟨v, σ', H', I.unwish, r, q⟩
theorem PSs.nox {st : List Stmt} {t : TS} (h : PSs X.nox st t) : PSs X st t := fun pins s σ H D I hw =>
  wpAny_mono (h pins s σ H D (I.wish _) hw) (fun _ _ q => q.unwish) fun _ _ z => False.elim z
end
section
variable {X : Cx} {st : Stmt} {rest : List Stmt} {t u : TS} {e : Expr} {te : TE} {pos : Pos}
def tNext : TS := fun D σ H => D.nx σ H
def tSeq (t u : TS) : TS := fun D σ H => t { D with nx := u D } σ H
theorem pss_nil : PSs X [] tNext := fun _ _ σ H _ I h => wpAny_execs_nil ⟨σ, H, I, h⟩
theorem pss_cons (h1 : PS X st t) (h2 : PSs X rest u) : PSs X (st :: rest) (tSeq t u) := by
  intro pins s σ H D I h
  refine wpAny_execs_cons (thn (h1 pins s σ H { D with nx := u D } I h) fun f s1 q => ?_)
  cases f with
  | next =>
    obtain ⟨σ', H', I', q⟩ := q
    exact h2 pins s1 σ' H' D I' q
  | ret v => exact q
  | brk => exact q
  | cont => exact q
theorem pss_one (h1 : PS X st t) : PSs X [st] t := by
  intro pins s σ H D I h
  refine wpAny_execs_cons (thn (h1 pins s σ H D I h) fun f s1 q => ?_)
  cases f with
  | next => exact wpAny_execs_nil q
  | ret v => exact q
  | brk => exact q
  | cont => exact q
theorem Inv.quiet {pins : List (Addr × Obj)} {σ : St} {H : Hp} {s : Shared} (I : Inv X pins σ H s) : interactive X.env = false := by simp [interactive, I.ok.kind]
def tDrop (te : TE) : TS := fun D σ H => te σ H fun _ H1 => D.nx σ H1
theorem ps_expr (he : PE X e te) (hs : swapsWith e none pos.line X.env = pure false := by rfl) : PS X (.Expr e pos) (tDrop te) := by
  intro pins s σ H D I h
  exact wpAny_Expr_any (thn (he pins s σ H _ I h) fun v s1 ⟨x, H1, I1, r1, q1⟩ => ⟨σ, H1, I1, q1⟩) I.quiet hs
def tRet (te : TE) : TS := fun D σ H => te σ H D.rt
theorem ps_ret (he : PE X e te) : PS X (.Return (some e) pos) (tRet te) := by
  intro pins s σ H D I h
  exact wpAny_Return_some (thn (he pins s σ H _ I h) fun v s1 ⟨x, H1, I1, r1, q1⟩ => ⟨x, σ, H1, I1, r1, q1⟩)
def tIfS (c : TT) (t u : TS) : TS := fun D σ H => c σ H fun b H1 => if b = true then t D σ H1 else u D σ H1
theorem ps_if {c : Expr} {a b : List Stmt} {tc : TT} (hc : PT X c tc) (ha : PSs X a t) (hb : PSs X b u) : PS X (.If c a b pos) (tIfS tc t u) := by
  intro pins s σ H D I h
  refine wpAny_If (thn (hc pins s σ H _ I h) fun d s1 ⟨H1, I1, q1⟩ => ?_)
  cases d with
  | true => exact ha pins s1 σ H1 D I1 q1
  | false => exact hb pins s1 σ H1 D I1 q1
end
abbrev TG := V → St → Hp → (St → Hp → Prop) → Prop
abbrev TGs := List V → St → Hp → (St → Hp → Prop) → Prop
def PG (X : Cx) (target : Expr) (t : TG) : Prop :=
  ∀ (pins : List (Addr × Obj)) (s : Shared) (σ : St) (H : Hp) (v : V) (u : Value) (Q : St → Hp → Prop), Inv X pins σ H s → RelV v u → t v σ H Q →
    wpAny (model X.prog X.w) X.A (assign target X.env u) (fun _ s' => ∃ σ' H', Inv X pins σ' H' s' ∧ Q σ' H') X.xe s
def PGs (X : Cx) (ts : List Expr) (t : TGs) : Prop :=
  ∀ (pins : List (Addr × Obj)) (s : Shared) (σ : St) (H : Hp) (vs : List V) (us : List Value) (Q : St → Hp → Prop), Inv X pins σ H s → Vals vs us → t vs σ H Q →
    wpAny (model X.prog X.w) X.A (assignInOrder ((assignEach ts X.env).map (·.2)) us) (fun _ s' => ∃ σ' H', Inv X pins σ' H' s' ∧ Q σ' H') X.xe s
abbrev TSet := V → V → V → Hp → (Hp → Prop) → Prop
def PSet (X : Cx) (t : TSet) : Prop :=
  ∀ (pins : List (Addr × Obj)) (s : Shared) (σ : St) (H : Hp) (o i v : V) (ov iv u : Value) (Q : Hp → Prop), Inv X pins σ H s → RelV o ov → RelV i iv → RelV v u → t o i v H Q →
    wpAny (model X.prog X.w) X.A (setItem ov iv u) (fun _ s' => ∃ H', Inv X pins σ H' s' ∧ Q H') X.xe s
section
variable {X : Cx} {pos : Pos}
def gName (i : Nat) : TG := fun v σ H Q => Q (σ.set i (some v)) H
theorem pg_name {i : Nat} {x : Str} (hN : X.N.Nodup) (hi : X.N[i]? = some x) (hx : Loc X.env.scope x) (hf : X.fn x = true ∨ X.env.scope.names.lookup x = some .local := by first | exact .inl rfl | exact .inr rfl | assumption) : PG X (.Name x pos) (gName i) := by
  intro pins s σ H v u Q I r h
  exact wpAny_assign_Name (store_ok I hN hi hx r (fun s' I' => ⟨_, H, I', h⟩) hf)
def gNil : TGs := fun vs σ H Q => vs = [] ∧ Q σ H
def gCons (t : TG) (u : TGs) : TGs := fun vs σ H Q => ∃ v r, vs = v :: r ∧ t v σ H fun σ' H' => u r σ' H' Q
theorem pgs_nil : PGs X [] gNil := by
  intro pins s σ H vs us Q I r h
  obtain ⟨e, h⟩ := h
  subst e
  cases r
  exact assignInOrder_nil ⟨σ, H, I, h⟩
theorem pgs_cons {e : Expr} {es : List Expr} {t : TG} {u : TGs} (h1 : PG X e t) (h2 : PGs X es u)
    (hs : (assignEach (e :: es) X.env).map (·.2) = assign e X.env :: (assignEach es X.env).map (·.2) := by rfl) : PGs X (e :: es) (gCons t u) := by
  intro pins s σ H vs us Q I r h
  obtain ⟨v, vr, e1, h⟩ := h
  subst e1
  cases r with
  | cons r rr =>
    rw [hs]
    refine assignInOrder_cons (thn (h1 pins s σ H _ _ _ I r h) fun _ s1 ⟨σ1, H1, I1, q1⟩ => ?_)
    exact h2 pins s1 σ1 H1 _ _ Q I1 rr q1
def gTup (K : PySem.W.Frag) (n : Nat) (t : TGs) : TG := fun v σ H Q => ∃ a xs, v = .ref a ∧ SqT K H a xs ∧ xs.length = n ∧ t xs σ H Q
theorem pg_tup {es : List Expr} {k : Nat} {t : TGs} {n : Nat} (hc : X.calm = true) (h : PGs X es t)
    (hn : (assignEach es X.env).length = n := by rfl) (hst : (assignEach es X.env).findIdx? (·.1) = none := by rfl) : PG X (.Tuple es k pos) (gTup X.K n t) := by
  intro pins s σ H v u Q I r hw
  obtain ⟨a, xs, e1, hq, hl, hw⟩ := hw
  subst e1
  cases r
  obtain ⟨its, rv, ht, hz⟩ := I.tuple hq
  refine assign_Tuple_tuple (I.ok.hd hc) ht (by simp [hn, ← hl, rv.length]) hst fun h' hx => ?_
  have I1 : Inv X pins σ H { s with heap := h' } := I.kept (t' := s.toks) fun b o e => hx b o (Nat.ne_of_lt (Heap.lt_size e)) e
  exact h pins _ σ H xs _ Q I1 (by simpa using rv) hw
def gSub (to ti : TE) (t : TSet) : TG := fun v σ H Q => to σ H fun o H1 => ti σ H1 fun i H2 => t o i v H2 fun H3 => Q σ H3
theorem pg_sub {o i : Expr} {to ti : TE} {t : TSet} (ho : PE X o to) (hi : PE X i ti) (hs : PSet X t)
    (ha : ∀ v, assign (.Subscript o i pos) X.env v = (do
      let ov ← holding [v] (eval o X.env)
      let iv ← holding [v, ov] (eval i X.env)
      standAt pos
      holding [v, ov, iv] (setItem ov iv v)
      release [v, ov, iv] []) := by intro _; rfl) : PG X (.Subscript o i pos) (gSub to ti t) := by
  intro pins s σ H v u Q I r h
  rw [ha]
  refine wpAny_bind (wpAny_holding (thn (ho pins s σ H _ I h) fun ov s1 ⟨x, H1, I1, r1, q1⟩ => ?_))
  refine wpAny_bind (wpAny_holding (thn (hi pins s1 σ H1 _ I1 q1) fun iv s2 ⟨y, H2, I2, r2, q2⟩ => ?_))
  refine wpAny_bind (wpAny_standAt (wpAny_bind (wpAny_holding (thn (hs pins s2 σ H2 x y v ov iv u _ I2 r1 r2 r q2) fun _ s3 ⟨H3, I3, q3⟩ => ?_))))
  exact wpAny_release ⟨σ, H3, I3, q3⟩
def tAsg (te : TE) (g : TG) : TS := fun D σ H => te σ H fun x H1 => g x σ H1 D.nx
theorem ps_asg {tg e : Expr} {te : TE} {g : TG} (he : PE X e te) (hg : PG X tg g) (hs : swapsWithSole [tg] e pos.line X.env = pure false := by rfl) (hw : swappedStores [tg] e X.env = pure none := by rfl)
    (h1 : (assignEach [tg] X.env).map (·.2) = [assign tg X.env] := by rfl) : PS X (.Assign [tg] e pos) (tAsg te g) := by
  intro pins s σ H D I h
  refine wpAny_Assign_stores (thn (he pins s σ H _ I h) fun v s1 ⟨x, H1, I1, r1, q1⟩ => ?_) hs hw
  rw [h1]
  exact thn (hg pins s1 σ H1 x v _ I1 r1 q1) fun _ s2 q => q
theorem ps_set {i : Nat} {x : Str} {e : Expr} {te : TE} {pos' : Pos} (hN : X.N.Nodup) (hi : X.N[i]? = some x) (hx : Loc X.env.scope x) (he : PE X e te) (hs : swapsWith e (some (.Name x pos')) pos.line X.env = pure false := by rfl) (hf : X.fn x = true ∨ X.env.scope.names.lookup x = some .local := by first | exact .inl rfl | exact .inr rfl | assumption) :
    PS X (.Assign [.Name x pos'] e pos) (tAsg te (gName i)) := by
  intro pins s σ H D I h
  refine wpAny_Assign_Name (thn (he pins s σ H _ I h) fun v s1 ⟨y, H1, I1, r1, q1⟩ => ?_) hs
  exact store_ok I1 hN hi hx r1 (fun s2 I2 => ⟨_, H1, I2, q1⟩) hf
end
section
variable {X : Cx} {pos : Pos}
def tWhile (c : TT) (tb : TS) : TS := fun D σ H => ∃ W : Nat → St → Hp → Prop, (∃ m, W m σ H) ∧ ∀ m σ H, W m σ H →
  c σ H fun b H1 => if b = true then ∃ N : St → Hp → Prop, (∀ σ' H', N σ' H' → ∃ m', m' < m ∧ W m' σ' H') ∧ tb { D with nx := N, ct := N, bk := D.nx } σ H1 else D.nx σ H1
theorem ps_while {c : Expr} {body : List Stmt} {tc : TT} {tb : TS} (hp : PassesOwn (model X.prog X.w) X.A X.env X.xe) (hc : PT X c tc) (hb : PSs X body tb) : PS X (.While c body [] pos) (tWhile tc tb) := by
  intro pins s σ H D I h
  obtain ⟨W, ⟨m0, w0⟩, turn⟩ := h
  refine wpAny_While (codeAny_whileLoop (fun n s' => ∃ σ' H', Inv X pins σ' H' s' ∧ W n σ' H') ?_ m0 ⟨σ, H, I, w0⟩)
  rintro n s1 ⟨σ1, H1, I1, w1⟩
  refine wpAny_passesOwn hp (thn (hc pins s1 σ1 H1 _ I1 (turn n σ1 H1 w1)) fun b s2 ⟨H2, I2, q2⟩ => ?_)
  cases b with
  | true =>
    obtain ⟨N, hN, q2⟩ := q2
    rw [if_pos rfl]
    refine wpAny_passesOwn hp (thn (hb pins s2 σ1 H2 _ I2 q2) fun f s3 q3 => ?_)
    cases f with
    | next =>
      obtain ⟨σ3, H3, I3, n3⟩ := q3
      obtain ⟨m', hm, w3⟩ := hN σ3 H3 n3
      exact ⟨m', hm, σ3, H3, I3, w3⟩
    | cont =>
      obtain ⟨σ3, H3, I3, n3⟩ := q3
      obtain ⟨m', hm, w3⟩ := hN σ3 H3 n3
      exact ⟨m', hm, σ3, H3, I3, w3⟩
    | brk => exact q3
    | ret v => exact q3
  | false =>
    rw [if_neg Bool.false_ne_true]
    exact wpAny_execs_nil ⟨σ1, H2, I2, q2⟩
end
structure It where
  go : Nat → Hp → Prop
  yld : Nat → Hp → V → Hp → Prop
  stop : Nat → Hp → Prop
def FpOk (X : Cx) (pins : List (Addr × Obj)) (H : Hp) (b : Addr) : Prop :=
  H b = none ∧ b ≠ X.env.locals ∧ b ∉ X.fs ∧ (b ∈ X.ex ∨ X.s_0.heap.objs.size ≤ b) ∧ (∀ x c, X.env.cells.lookup x = some c → c ≠ b) ∧ ∀ p ∈ X.pn ++ pins, p.1 ≠ b
theorem Inv.fpOk {X : Cx} {pins : List (Addr × Obj)} {σ : St} {H H' : Hp} {s : Shared} {b : Addr} (I : Inv X pins σ H s) (hb : s.heap.objs.size ≤ b) (hn : H' b = none) : FpOk X pins H' b := by
  refine ⟨hn, Nat.ne_of_gt (Nat.lt_of_lt_of_le I.lt hb), I.nofs hb, .inr (Nat.le_trans I.sz hb), fun x c e z => ?_, fun p hp z => ?_⟩
  · obtain ⟨v, q⟩ := I.cell x c e
    exact absurd (Nat.lt_of_lt_of_le q.lt (by rw [z]; exact hb)) (Nat.lt_irrefl _)
  · exact absurd (Nat.lt_of_lt_of_le (Heap.lt_size (I.pin p hp).1) (by rw [z]; exact hb)) (Nat.lt_irrefl _)
structure Turn (P : Program) (w : World) (K : PySem.W.Frag) (tg : Expr) (J : It) (fp : List Addr) (it : Addr) (tn : Nat → Heap → Prop) : Prop where
  mem : it ∈ fp
  obj : ∀ i h, tn i h → ∀ b ∈ fp, ∃ o, h.get? b = some o ∧ ∀ v, o.data ≠ .cell v
  keep : ∀ i h h', tn i h → (∀ b ∈ fp, ∀ o, h.get? b = some o → h'.get? b = some o) → tn i h'
  item : ∀ (X : Cx), X.prog = P → X.w = w → X.K = K → X.calm = true → ∀ (i : Nat) (pins : List (Addr × Obj)) (s : Shared) (σ : St) (H : Hp) (E : Value → Shared → Prop), Inv X pins σ H s → (∀ b ∈ fp, FpOk X pins H b) → tn i s.heap → J.go i H →
    wpAny (model P w) X.A (pyNext (.ref it)) (fun r s1 => ∃ u, r = some u ∧
      wpAny (model P w) X.A (letOwnedTupleGo tg (.ref it) u) (fun _ s2 => ∃ x H', Inv X pins σ H' s2 ∧ RelV x u ∧ J.yld i H x H' ∧ tn (i + 1) s2.heap ∧ ∀ b ∈ fp, H' b = none) E s1) E s
  done : ∀ (X : Cx), X.prog = P → X.w = w → X.K = K → X.calm = true → ∀ (i : Nat) (pins : List (Addr × Obj)) (s : Shared) (σ : St) (H : Hp) (E : Value → Shared → Prop), Inv X pins σ H s → (∀ b ∈ fp, FpOk X pins H b) → tn i s.heap → J.stop i H →
    wpAny (model P w) X.A (pyNext (.ref it)) (fun r s1 => r = none ∧ Inv X pins σ H s1) E s
  self : ∀ (A : Around) (i : Nat) (s : Shared) (Q : Value → Shared → Prop) (E : Value → Shared → Prop), tn i s.heap → Q (.ref it) s → wpAny (model P w) A (pyIter (.ref it)) Q E s
abbrev TI := St → Hp → (It → Hp → Prop) → Prop
def PIE (X : Cx) (pins : List (Addr × Obj)) (σ : St) (tg : Expr) (R : It → Hp → Prop) (itv : Value) (s2 : Shared) : Prop :=
  ∃ (it : Addr) (fp : List Addr) (tn : Nat → Heap → Prop) (J : It) (H' : Hp), itv = .ref it ∧ Inv X pins σ H' s2 ∧ Turn X.prog X.w X.K tg J fp it tn ∧ tn 0 s2.heap ∧ (∀ b ∈ fp, FpOk X pins H' b) ∧ R J H'
def PI (X : Cx) (tg iter : Expr) (wi : TI) : Prop :=
  ∀ (pins : List (Addr × Obj)) (s : Shared) (σ : St) (H : Hp) (R : It → Hp → Prop), Inv X pins σ H s → wi σ H R →
    wpAny (model X.prog X.w) X.A (eval iter X.env) (fun v s1 => wpAny (model X.prog X.w) X.A (pyIter v) (PIE X pins σ tg R) X.xe s1) X.xe s
theorem go_of {M : Model} {A : Around} {E : Value → Shared → Prop} {s : Shared} {tg : Expr} {it : Addr} {u : Value} {o : Obj} {n : String} {vs : Array Value} {Q : Unit → Shared → Prop} (ho : s.heap.get? it = some o) (hc : o.cls = .type n) (hd : o.data = .fields vs)
    (hn : ["enumerate", "zip", "dict_itemiterator", "dict_reverseitemiterator", "odict_iterator", "itertools.zip_longest", "itertools.pairwise"].contains n = false) (hQ : Q () s) : wpAny M A (letOwnedTupleGo tg (.ref it) u) Q E s := by
  unfold letOwnedTupleGo
  cases tg <;> first
    | exact wpAny_pure hQ
    | (cases u <;> first
        | exact wpAny_pure hQ
        | (refine wpAny_bind (wpAny_load ho ?_)
           rw [hc, hd]
           show wpAny M A (if (["enumerate", "zip", "dict_itemiterator", "dict_reverseitemiterator", "odict_iterator", "itertools.zip_longest", "itertools.pairwise"].contains n && vs[0]? == some (rawInt _)) = true then _ else _) Q E s
           rw [if_neg (by intro h; rw [hn, Bool.false_and] at h; cases h)]
           exact wpAny_pure hQ))
def Itl (K : PySem.W.Frag) (a : Addr) : It :=
  ⟨fun i H => ∃ xs x, SqL K H a xs ∧ xs[i]? = some x, fun i H x H' => H' = H ∧ ∀ xs, SqL K H a xs → xs[i]? = some x, fun i H => ∃ xs, SqL K H a xs ∧ xs.length ≤ i⟩
def Itr (lo : Int) (n : Nat) : It := ⟨fun i _ => i < n, fun i H x H' => H' = H ∧ x = .int (lo + i), fun i _ => n ≤ i⟩
theorem turn_list {P : Program} {w : World} {K : PySem.W.Frag} {tg : Expr} (a it : Addr) : Turn P w K tg (Itl K a) [it] it (fun i h => h.IsListIter it a i) where
  mem := by simp
  obj := fun i h st b hb => by
    have e : b = it := by simpa using hb
    subst e
    obtain ⟨o, e, c, d⟩ := st
    exact ⟨o, e, fun v z => by rw [d] at z; cases z⟩
  keep := fun i h h' st k => st.at fun o e => k it (by simp) o e
  item := by
    intro X hP hw hK hc i pins s σ H E I hf st hg
    subst hP hw hK
    obtain ⟨xs, x, hq, hx⟩ := hg
    obtain ⟨its, rv, p, hz⟩ := I.list hq
    obtain ⟨u, hu, ru⟩ := rv.get hx
    obtain ⟨f0, f1, f2, f3, f4, f5⟩ := hf it (by simp)
    refine wpAny_pyNext_list_item st p.isList (x := u) (by simpa using hu) fun h' st' sb => ?_
    have I1 : Inv X pins σ H { s with heap := h' } := I.turned (t' := s.toks) (fun b o hb e => (sb.2 b hb).trans e) f0 f1 f3 f4 f5
    obtain ⟨o, e, c, d⟩ := id st'
    exact ⟨u, rfl, go_of (s := { s with heap := h' }) e c d (by decide) ⟨x, H, I1, ru, ⟨rfl, fun ys hy => by rw [I.list_inj hy hq]; exact hx⟩, st', fun b hb => (hf b hb).1⟩⟩
  done := by
    intro X hP hw hK hc i pins s σ H E I hf st hg
    subst hP hw hK
    obtain ⟨xs, hq, hx⟩ := hg
    obtain ⟨its, rv, p, hz⟩ := I.list hq
    obtain ⟨f0, f1, f2, f3, f4, f5⟩ := hf it (by simp)
    have hl := rv.length
    exact wpAny_pyNext_list_end (I.ok.hd hc) st p.isList (by simp; omega) fun h' eb => ⟨rfl, I.turned (t' := s.toks) (fun b o hb e => eb b o hb e) f0 f1 f3 f4 f5⟩
  self := fun _ _ _ _ _ st h => wpAny_pyIter_listiter st h
theorem turn_range {P : Program} {w : World} {K : PySem.W.Frag} {tg : Expr} (it : Addr) (lo : Int) (n : Nat) : Turn P w K tg (Itr lo n) [it] it (fun i h => IsRangeIter h it (lo + (i : Nat) * 1) ((n : Int) - (i : Nat)) 1) where
  mem := by simp
  obj := fun i h st b hb => by
    have e : b = it := by simpa using hb
    subst e
    exact ⟨_, st, fun v z => by
      have z' : Data.fields _ = Data.cell v := z
      cases z'⟩
  keep := fun i h h' st k => k it (by simp) _ st
  item := by
    intro X hP hw hK hc i pins s σ H E I hf st hg
    subst hP hw hK
    obtain ⟨f0, f1, f2, f3, f4, f5⟩ := hf it (by simp)
    have W := Walks.range (prog := X.prog) (w := X.w) (I.ok.hd hc) it lo 1 n
    refine W.item i s _ _ hg st fun v h' tk hv st' kk => ?_
    obtain ⟨t, rfl⟩ := hv
    have I1 : Inv X pins σ H { s with heap := h', toks := tk } := I.turned (fun b o hb e => kk b o (by simpa using hb) e) f0 f1 f3 f4 f5
    refine ⟨_, rfl, go_of (s := { s with heap := h', toks := tk }) (n := "range_iterator") st' rfl rfl (by decide) ⟨.int (lo + i), H, I1, ⟨t, ?_⟩, ⟨rfl, rfl⟩, st', fun b hb => (hf b hb).1⟩⟩
    rw [Int.mul_one]
  done := by
    intro X hP hw hK hc i pins s σ H E I hf st hg
    subst hP hw hK
    obtain ⟨f0, f1, f2, f3, f4, f5⟩ := hf it (by simp)
    exact wpAny_pyNext_range_end (I.ok.hd hc) st (by have : n ≤ i := hg; omega) fun h' eb => ⟨rfl, I.turned (t' := s.toks) (fun b o hb e => eb b o hb e) f0 f1 f3 f4 f5⟩
  self := fun _ _ _ _ _ st h => wpAny_pyIter_rangeiter st h
end L2
namespace L2
open PySem PySem.Spec PyProof.Rows
section
variable {X : Cx} {tg : Expr}
def iList (K : PySem.W.Frag) (tl : TE) : TI := fun σ H R => tl σ H fun x H1 => ∃ a, x = .ref a ∧ (∃ xs, SqL K H1 a xs) ∧ R (Itl K a) H1
theorem pi_list {l : Expr} {tl : TE} (hl : PE X l tl) : PI X tg l (iList X.K tl) := by
  intro pins s σ H R I h
  refine thn (hl pins s σ H _ I h) fun v s1 ⟨x, H1, I1, r1, q1⟩ => ?_
  obtain ⟨a, e, ⟨xs, hq⟩, q⟩ := q1
  subst e
  cases r1
  obtain ⟨its, rv, p, hz⟩ := I1.list hq
  refine wpAny_pyIter_list p.isList ?_
  refine ⟨s1.heap.objs.size, [s1.heap.objs.size], _, _, H1, rfl, I1.kept (t' := s1.toks) fun b o e => Heap.get?_push_of_some _ e, turn_list a _, ⟨_, Heap.get?_push_size _ rfl, rfl, rfl⟩, fun b hb => ?_, q⟩
  have e : b = s1.heap.objs.size := by simpa using hb
  subst e
  exact I1.fpOk (Nat.le_refl _) (I1.hok.fresh (Nat.le_refl _))
theorem range_it {pins : List (Addr × Obj)} {σ : St} {H : Hp} {s : Shared} {R : It → Hp → Prop} {E : Value → Shared → Prop} {lo hi : Int} {t u v : Tok} {tk : Nat} (I : Inv X pins σ H s) (h1 : -(2 ^ 62) ≤ lo) (h2 : lo < 2 ^ 62) (h3 : -(2 ^ 62) ≤ hi) (h4 : hi < 2 ^ 62)
    (q : R (Itr lo (hi - lo).toNat) H) : wpAny (model X.prog X.w) X.A (pyIter (.ref s.heap.objs.size)) (PIE X pins σ tg R) E { s with heap := s.heap.push { cls := .type "range", data := .fields #[.int lo t, .int hi u, .int 1 v] }, toks := tk } := by
  refine wpAny_pyIter_range (IsRange.new ..) (small_one h1 h2 h3 h4) ?_
  have I1 : Inv X pins σ H { s with heap := s.heap.push { cls := .type "range", data := .fields #[.int lo t, .int hi u, .int 1 v] }, toks := tk } := I.kept fun b o e => Heap.get?_push_of_some _ e
  refine ⟨(s.heap.push { cls := .type "range", data := .fields #[.int lo t, .int hi u, .int 1 v] }).objs.size, [(s.heap.push { cls := .type "range", data := .fields #[.int lo t, .int hi u, .int 1 v] }).objs.size], _, _, H, rfl,
    I1.kept (t' := tk) fun b o e => Heap.get?_push_of_some _ e, turn_range _ lo (hi - lo).toNat, ?_, fun b hb => ?_, q⟩
  · have e1 : lo + ((0 : Nat) : Int) * 1 = lo := by simp
    have e2 : (((hi - lo).toNat : Nat) : Int) - ((0 : Nat) : Int) = Builtin.Range.rangeSize lo hi 1 := by rw [rangeSize_one]; split <;> omega
    show IsRangeIter _ _ (lo + ((0 : Nat) : Int) * 1) ((((hi - lo).toNat : Nat) : Int) - ((0 : Nat) : Int)) 1
    rw [e1, e2]
    exact Heap.get?_push_size _ rfl
  · have e : b = (s.heap.push { cls := .type "range", data := .fields #[.int lo t, .int hi u, .int 1 v] }).objs.size := by simpa using hb
    subst e
    exact I1.fpOk (Nat.le_refl _) (I1.hok.fresh (Nat.le_refl _))
def iRng1 (ta : TA) : TI := fun σ H R => ta σ H fun vs H1 => ∃ j : Int, vs = [.int j] ∧ -(2 ^ 62) ≤ j ∧ j < 2 ^ 62 ∧ R (Itr 0 j.toNat) H1
theorem pi_range1 {a : Expr} {ta : TA} {p pos : Pos} (hg : Gl X "range") (hm : X.mg "range" = none) (ha : PA X [a] ta) (hs : starEach [a] X.env = [(false, eval a X.env)] := by rfl) : PI X tg (.Call (.Name "range" p) [a] [] pos) (iRng1 ta) := by
  intro pins s σ H R I h
  refine Call_ (ld_blt I hg hm boot_range (PyProof.Rows.callWith_type1 (thn (ha pos pins s σ H _ I h) fun us s1 ⟨vs, H1, I1, r1, q1⟩ => ?_) hs rfl))
  obtain ⟨j, e, q1, q2, q⟩ := q1
  subst e
  cases r1 with
  | cons r rr =>
    cases rr
    obtain ⟨t, rfl⟩ := r
    exact call_range_1 (range_it I1 (by omega) (by omega) q1 q2 (by simpa using q))
def tFor (wi : TI) (g : TG) (tb : TS) : TS := fun D σ H => wi σ H fun J H1 => ∃ W : Nat → Nat → St → Hp → Prop, (∃ m, W 0 m σ H1) ∧ ∀ i m σ H, W i m σ H →
  (J.stop i H ∧ D.nx σ H) ∨ (J.go i H ∧ ∃ N : St → Hp → Prop, (∀ σ' H', N σ' H' → ∃ m', m' < m ∧ W (i + 1) m' σ' H') ∧ ∀ x H', J.yld i H x H' → g x σ H' fun σ2 H2 => tb { D with nx := N, ct := N, bk := D.nx } σ2 H2)
def pinsAt (fp : List Addr) (h : Heap) : List (Addr × Obj) := fp.filterMap fun b => (h.get? b).map fun o => (b, o)
theorem mem_pinsAt {fp : List Addr} {h : Heap} {b : Addr} {o : Obj} (hb : b ∈ fp) (e : h.get? b = some o) : (b, o) ∈ pinsAt fp h := List.mem_filterMap.mpr ⟨b, hb, by rw [e]; rfl⟩
theorem of_pinsAt {fp : List Addr} {h : Heap} {p : Addr × Obj} (hp : p ∈ pinsAt fp h) : p.1 ∈ fp ∧ h.get? p.1 = some p.2 := by
  obtain ⟨b, hb, e⟩ := List.mem_filterMap.mp hp
  cases q : h.get? b with
  | none => rw [q] at e; cases e
  | some o =>
    rw [q] at e
    have e' : (b, o) = p := Option.some.inj e
    subst e'
    exact ⟨hb, q⟩
theorem Inv.pinned {pins : List (Addr × Obj)} {σ : St} {H : Hp} {s : Shared} {fp : List Addr} (I : Inv X pins σ H s) (hf : ∀ b ∈ fp, FpOk X pins H b) (ho : ∀ b ∈ fp, ∃ o, s.heap.get? b = some o ∧ ∀ v, o.data ≠ .cell v) : Inv X (pins ++ pinsAt fp s.heap) σ H s :=
  I.pins_of fun p hp => (List.mem_append.mp hp).elim (fun z => I.pin p (List.mem_append_right _ z)) fun z => by
    obtain ⟨hb, e⟩ := of_pinsAt z
    obtain ⟨f0, f1, f2, _⟩ := hf p.1 hb
    obtain ⟨o, e', d⟩ := ho p.1 hb
    rw [e] at e'; cases e'
    exact ⟨e, f0, f1, f2, d⟩
theorem Inv.unpinned {pins pl : List (Addr × Obj)} {σ : St} {H : Hp} {s : Shared} (I : Inv X (pins ++ pl) σ H s) : Inv X pins σ H s := I.pins_of fun p hp => I.pin p (List.mem_append_right _ (List.mem_append_left _ hp))
theorem ps_for {iter : Expr} {body : List Stmt} {wi : TI} {g : TG} {tb : TS} {pos : Pos} (hp : PassesOwn (model X.prog X.w) X.A X.env X.xe) (hc : X.calm = true) (hi : PI X tg iter wi) (hg : PG X tg g) (hb : PSs X body tb)
    (hs : ∀ x, foldedSetIterable iter X.env x = pure x := by intro _; rfl) : PS X (.For tg iter body [] pos) (tFor wi g tb) := by
  intro pins s σ H D I h
  refine wpAny_For (thn (hi pins s σ H _ I h) fun v s1 h1 => thn h1 fun itv s2 h2 => ?_) hs
  obtain ⟨it, fp, tn, J, H2, e, I2, T, st2, f2, W, ⟨m0, w0⟩, turn⟩ := h2
  subst e
  -- what stays true of the iterator's objects through the loop
  have stat : ∀ {H' : Hp}, (∀ b ∈ fp, H' b = none) → ∀ b ∈ fp, FpOk X pins H' b := fun hn b hb => ⟨hn b hb, (f2 b hb).2⟩
  refine codeAny_forLoop_any (fun n s' => ∃ i σ' H', Inv X pins σ' H' s' ∧ tn i s'.heap ∧ (∀ b ∈ fp, H' b = none) ∧ W i n σ' H') ?_ m0 ⟨0, σ, H2, I2, st2, fun b hb => (f2 b hb).1, w0⟩
  rintro n s3 ⟨i, σ3, H3, I3, st3, fr3, w3⟩
  rcases turn i n σ3 H3 w3 with ⟨stop, qn⟩ | ⟨go, N, hN, step⟩
  · refine wpAny_passesOwn hp (thn (T.done X rfl rfl rfl hc i pins s3 σ3 H3 X.xe I3 (stat fr3) st3 stop) fun r s4 ⟨hr, I4⟩ => ?_)
    subst hr
    exact wpAny_execs_nil ⟨σ3, H3, I4, qn⟩
  · refine wpAny_passesOwn hp (thn (T.item X rfl rfl rfl hc i pins s3 σ3 H3 X.xe I3 (stat fr3) st3 go) fun r s4 ⟨u, hr, h4⟩ => ?_)
    subst hr
    refine wpAny_passesOwn hp (thn h4 fun _ s5 ⟨x, H5, I5, r5, y5, st5, fr5⟩ => ?_)
    have I5' := I5.pinned (stat fr5) (T.obj _ _ st5)
    refine wpAny_passesOwn hp (thn (hg _ s5 σ3 H5 x u _ I5' r5 (step x H5 y5)) fun _ s6 ⟨σ6, H6, I6, q6⟩ => ?_)
    refine wpAny_passesOwn hp (thn (hb _ s6 σ6 H6 _ I6 q6) fun f s7 q7 => ?_)
    have again : ∀ {σ7 : St} {H7 : Hp}, Inv X (pins ++ pinsAt fp s5.heap) σ7 H7 s7 → N σ7 H7 → ∃ m, m < n ∧ ∃ i σ' H', Inv X pins σ' H' s7 ∧ tn i s7.heap ∧ (∀ b ∈ fp, H' b = none) ∧ W i m σ' H' := fun {σ7 H7} I7 n7 => by
      obtain ⟨m', hm, w7⟩ := hN σ7 H7 n7
      refine ⟨m', hm, i + 1, σ7, H7, I7.unpinned, T.keep _ _ _ st5 fun b hb o e => (I7.pin (b, o) (List.mem_append_right _ (List.mem_append_right _ (mem_pinsAt hb e)))).1, fun b hb => ?_, w7⟩
      obtain ⟨o, e, d⟩ := T.obj _ _ st5 b hb
      exact (I7.pin (b, o) (List.mem_append_right _ (List.mem_append_right _ (mem_pinsAt hb e)))).2.1
    cases f with
    | next => obtain ⟨σ7, H7, I7, n7⟩ := q7; exact again I7 n7
    | cont => obtain ⟨σ7, H7, I7, n7⟩ := q7; exact again I7 n7
    | brk => obtain ⟨σ7, H7, I7, q7⟩ := q7; exact ⟨σ7, H7, I7.unpinned, q7⟩
    | ret v => obtain ⟨x7, σ7, H7, I7, r7, q7⟩ := q7; exact ⟨x7, σ7, H7, I7.unpinned, r7, q7⟩
end
theorem for_list {K : PySem.W.Frag} {a : Addr} {xs : List V} {g : TG} {tb : TS} {D : Ends} {σ : St} {H : Hp} (Pv : Nat → St → Hp → Prop) (h0 : Pv 0 σ H) (hl : ∀ i σ H, i ≤ xs.length → Pv i σ H → SqL K H a xs)
    (hs : ∀ i x σ H, xs[i]? = some x → Pv i σ H → g x σ H fun σ2 H2 => tb { D with nx := Pv (i + 1), ct := Pv (i + 1), bk := D.nx } σ2 H2) (hd : ∀ σ H, Pv xs.length σ H → D.nx σ H) :
    ∃ W : Nat → Nat → St → Hp → Prop, (∃ m, W 0 m σ H) ∧ ∀ i m σ H, W i m σ H →
      ((Itl K a).stop i H ∧ D.nx σ H) ∨ ((Itl K a).go i H ∧ ∃ N : St → Hp → Prop, (∀ σ' H', N σ' H' → ∃ m', m' < m ∧ W (i + 1) m' σ' H') ∧ ∀ x H', (Itl K a).yld i H x H' → g x σ H' fun σ2 H2 => tb { D with nx := N, ct := N, bk := D.nx } σ2 H2) := by
  refine ⟨fun i m σ H => m = xs.length - i ∧ i ≤ xs.length ∧ Pv i σ H, ⟨xs.length, by simp, Nat.zero_le _, h0⟩, ?_⟩
  rintro i m σ H ⟨rfl, hi, p⟩
  have q := hl i σ H hi p
  by_cases hlt : i < xs.length
  · refine .inr ⟨⟨xs, xs[i], q, by simp [hlt]⟩, Pv (i + 1), fun σ' H' p' => ⟨xs.length - (i + 1), by omega, rfl, hlt, p'⟩, fun x H' y => ?_⟩
    obtain ⟨e, y⟩ := y
    subst e
    exact hs i x σ _ (y xs q) p
  · have e : i = xs.length := by omega
    subst e
    exact .inl ⟨⟨xs, q, Nat.le_refl _⟩, hd σ H p⟩
theorem while_by {c : TT} {tb : TS} {D : Ends} {σ : St} {H : Hp} (Pv : St → Hp → Prop) (μ : St → Hp → Nat) (h0 : Pv σ H)
    (hs : ∀ σ H, Pv σ H → c σ H fun b H1 => if b = true then tb { D with nx := fun σ' H' => Pv σ' H' ∧ μ σ' H' < μ σ H, ct := fun σ' H' => Pv σ' H' ∧ μ σ' H' < μ σ H, bk := D.nx } σ H1 else D.nx σ H1)
    (mono : ∀ σ H Q Q', (∀ b H1, Q b H1 → Q' b H1) → c σ H Q → c σ H Q') : tWhile c tb D σ H := by
  refine ⟨fun m σ H => m = μ σ H ∧ Pv σ H, ⟨_, rfl, h0⟩, ?_⟩
  rintro m σ H ⟨rfl, p⟩
  refine mono σ H _ _ (fun b H1 q => ?_) (hs σ H p)
  cases b with
  | true => exact ⟨_, fun σ' H' ⟨p', l⟩ => ⟨_, l, rfl, p'⟩, q⟩
  | false => exact q
end L2
namespace L2
open PySem PySem.Spec PyProof.Rows
abbrev R2 := V → V → Hp → VK → Prop
def OpR (X : Cx) (f : Value → Value → Sem Value) (r : R2) : Prop :=
  ∀ (pins : List (Addr × Obj)) (s : Shared) (σ : St) (H : Hp) (x y : V) (v u : Value) (Q : VK), Inv X pins σ H s → RelV x v → RelV y u → r x y H Q →
    wpAny (model X.prog X.w) X.A (f v u) (EP X pins σ Q) X.xe s
def UnR (X : Cx) (f : Value → Sem Value) (r : V → Hp → VK → Prop) : Prop :=
  ∀ (pins : List (Addr × Obj)) (s : Shared) (σ : St) (H : Hp) (x : V) (v : Value) (Q : VK), Inv X pins σ H s → RelV x v → r x H Q →
    wpAny (model X.prog X.w) X.A (f v) (EP X pins σ Q) X.xe s
def CallR (X : Cx) (f : Value) (r : List V → Hp → VK → Prop) : Prop :=
  ∀ (pins : List (Addr × Obj)) (s : Shared) (σ : St) (H : Hp) (xs : List V) (us : List Value) (Q : VK), Inv X pins σ H s → Vals xs us → r xs H Q →
    wpAny (model X.prog X.w) X.A (call f us) (EP X pins σ Q) X.xe s
def tOp (r : R2) (ta tb : TE) : TE := fun σ H Q => ta σ H fun x H1 => tb σ H1 fun y H2 => r x y H2 Q
def tUn (r : V → Hp → VK → Prop) (ta : TE) : TE := fun σ H Q => ta σ H fun x H1 => r x H1 Q
def rI (C : Int → Int → Prop) (g : Int → Int → V) : R2 := fun x y H Q => ∃ i j, x = .int i ∧ y = .int j ∧ C i j ∧ Q (g i j) H
def rI0 (g : Int → Int → V) : R2 := fun x y H Q => ∃ i j, x = .int i ∧ y = .int j ∧ Q (g i j) H
def rU (g : Int → V) : V → Hp → VK → Prop := fun x H Q => ∃ i, x = .int i ∧ Q (g i) H
section
variable {X : Cx} {a b c : Expr} {ta tb tc : TE} {pos : Pos}
theorem binT (ha : PE X a ta) (hb : PE X b tb) {pins : List (Addr × Obj)} {s : Shared} {σ : St} {H : Hp} {R : V → V → Hp → Prop} (I : Inv X pins σ H s)
    (h : ta σ H fun x H1 => tb σ H1 fun y H2 => R x y H2) {Q : Value → Shared → Prop} {f : Value → Value → Sem Value}
    (hf : ∀ v u s2 x y H2, Inv X pins σ H2 s2 → RelV x v → RelV y u → R x y H2 → wpAny (model X.prog X.w) X.A (f v u) Q X.xe s2) :
    wpAny (model X.prog X.w) X.A (eval a X.env) (fun v s₁ => wpAny (model X.prog X.w) X.A (eval b X.env) (fun u s₂ => wpAny (model X.prog X.w) X.A (f v u) Q X.xe s₂) X.xe s₁) X.xe s := by
  refine thn (ha pins s σ H _ I h) fun v s1 ⟨x, H1, I1, r1, q1⟩ => ?_
  refine thn (hb pins s1 σ H1 _ I1 q1) fun u s2 ⟨y, H2, I2, r2, q2⟩ => ?_
  exact hf v u s2 x y H2 I2 r1 r2 q2
theorem pe_op {op : Operator} {r : R2} (ho : OpR X (binaryOp op) r) (ha : PE X a ta) (hb : PE X b tb) : PE X (.BinOp a op b pos) (tOp r ta tb) := by
  intro pins s σ H Q I h
  exact wpAny_BinOp (binT ha hb I h fun v u s2 x y H2 I2 rx ry q => ho pins s2 σ H2 x y v u Q I2 rx ry q)
theorem pe_un {op : UnaryOp} {r : V → Hp → VK → Prop} (ho : UnR X (unaryOp op) r) (ha : PE X a ta) : PE X (.UnaryOp op a pos) (tUn r ta) := by
  intro pins s σ H Q I h
  exact UnaryOp_ (thn (ha pins s σ H _ I h) fun v s1 ⟨x, H1, I1, r1, q1⟩ => ho pins s1 σ H1 x v Q I1 r1 q1)
theorem opI {f : Value → Value → Sem Value} {C : Int → Int → Prop} {g : Int → Int → Int}
    (rule : ∀ (i j : Int) (t u : Tok) (s : Shared) (Q : Value → Shared → Prop) (E : Value → Shared → Prop), C i j → Q (.int (g i j) s.toks) { s with toks := s.toks + 1 } → wpAny (model X.prog X.w) X.A (f (.int i t) (.int j u)) Q E s) :
    OpR X f (rI C fun i j => .int (g i j)) := by
  intro pins s σ H x y v u Q I rx ry h
  obtain ⟨i, j, rfl, rfl, hc, q⟩ := h
  obtain ⟨t, rfl⟩ := rx
  obtain ⟨t', rfl⟩ := ry
  exact rule i j t t' s _ _ hc ⟨.int (g i j), H, I.tok _, ⟨_, rfl⟩, q⟩
theorem opI0 {f : Value → Value → Sem Value} {g : Int → Int → Int}
    (rule : ∀ (i j : Int) (t u : Tok) (s : Shared) (Q : Value → Shared → Prop) (E : Value → Shared → Prop), Q (.int (g i j) s.toks) { s with toks := s.toks + 1 } → wpAny (model X.prog X.w) X.A (f (.int i t) (.int j u)) Q E s) :
    OpR X f (rI0 fun i j => .int (g i j)) := by
  intro pins s σ H x y v u Q I rx ry h
  obtain ⟨i, j, rfl, rfl, q⟩ := h
  obtain ⟨t, rfl⟩ := rx
  obtain ⟨t', rfl⟩ := ry
  exact rule i j t t' s _ _ ⟨.int (g i j), H, I.tok _, ⟨_, rfl⟩, q⟩
theorem opB0 {f : Value → Value → Sem Value} {g : Int → Int → Bool}
    (rule : ∀ (i j : Int) (t u : Tok) (s : Shared) (Q : Value → Shared → Prop) (E : Value → Shared → Prop), Q (.bool (g i j)) s → wpAny (model X.prog X.w) X.A (f (.int i t) (.int j u)) Q E s) :
    OpR X f (rI0 fun i j => .bl (g i j)) := by
  intro pins s σ H x y v u Q I rx ry h
  obtain ⟨i, j, rfl, rfl, q⟩ := h
  obtain ⟨t, rfl⟩ := rx
  obtain ⟨t', rfl⟩ := ry
  exact rule i j t t' s _ _ ⟨.bl (g i j), H, I, rfl, q⟩
def CPow (i j : Int) : Prop := 0 ≤ j ∧ j ≤ 1000000 ∧ i.natAbs < 2 ^ 64
theorem two_pow_nn (k : Nat) : (0 : Int) ≤ 2 ^ k := by
  rw [two_pow_cast]
  exact Int.natCast_nonneg _
theorem op_add : OpR X (binaryOp .Add) (rI0 fun i j => .int (i + j)) := opI0 fun _ _ _ _ _ _ _ q => add_int q
theorem op_sub : OpR X (binaryOp .Sub) (rI0 fun i j => .int (i - j)) := opI0 fun _ _ _ _ _ _ _ q => sub_int q
theorem op_shl : OpR X (binaryOp .LShift) (rI CPow fun i j => .int (i * 2 ^ j.toNat)) := opI fun _ _ _ _ _ _ _ hc q => lshift_int_small hc.1 hc.2.1 hc.2.2 q
theorem op_shr : OpR X (binaryOp .RShift) (rI (fun _ j => 0 ≤ j) fun i j => .int (i / 2 ^ j.toNat)) := opI fun i j _ _ _ _ _ hc q =>
  rshift_int hc (by rw [Int.fdiv_eq_ediv_of_nonneg i (two_pow_nn _)]; exact q)
theorem op_and : OpR X (binaryOp .BitAnd) (rI0 fun i j => .int (Builtin.bitAnd i j)) := opI0 fun _ _ _ _ _ _ _ q => and_int q
theorem unI {f : Value → Sem Value} {g : Int → Int}
    (rule : ∀ (i : Int) (t : Tok) (s : Shared) (Q : Value → Shared → Prop) (E : Value → Shared → Prop), Q (.int (g i) s.toks) { s with toks := s.toks + 1 } → wpAny (model X.prog X.w) X.A (f (.int i t)) Q E s) :
    UnR X f (rU fun i => .int (g i)) := by
  intro pins s σ H x v Q I rx h
  obtain ⟨i, rfl, q⟩ := h
  obtain ⟨t, rfl⟩ := rx
  exact rule i t s _ _ ⟨.int (g i), H, I.tok _, ⟨_, rfl⟩, q⟩
theorem un_neg : UnR X (unaryOp .USub) (rU fun i => .int (-i)) := unI fun _ _ _ _ _ q => neg_int q
end
def scal : V → V → Bool
  | .non, .non => true | .non, .int _ => true | .int _, .non => true | .non, .bl _ => true | .bl _, .non => true | .non, .str _ => true | .str _, .non => true
  | .int _, .int _ => true | .bl _, .bl _ => true | .str _, .str _ => true | .byt _, .byt _ => true
  | .int _, .str _ => true | .str _, .int _ => true | .bl _, .str _ => true | .str _, .bl _ => true
  | _, _ => false
def rEq : R2 := fun x y H Q => scal x y = true ∧ Q (.bl (decide (x = y))) H
def rNe : R2 := fun x y H Q => scal x y = true ∧ Q (.bl (!decide (x = y))) H
theorem dec_int {i j : Int} : decide (V.int i = V.int j) = (i == j) := by
  rw [Bool.eq_iff_iff]
  simp
theorem dec_bl {i j : Bool} : decide (V.bl i = V.bl j) = (i == j) := by
  rw [Bool.eq_iff_iff]
  simp
theorem dec_str {i j : Str} : decide (V.str i = V.str j) = (i == j) := by
  rw [Bool.eq_iff_iff]
  simp
theorem dec_byt {i j : Array UInt8} : decide (V.byt i = V.byt j) = (i.toList == j.toList) := by
  rw [Bool.eq_iff_iff]
  cases i
  cases j
  simp
section
variable {X : Cx} {a b c : Expr} {ta tb tc : TE} {pos : Pos}
theorem fin_bl {pins : List (Addr × Obj)} {σ : St} {H : Hp} {s : Shared} {Q : VK} {k k' : Bool} (I : Inv X pins σ H s) (q : Q (.bl k) H) (e : k = k') : EP X pins σ Q (.bool k') s := by
  subst e
  exact ⟨.bl k, H, I, rfl, q⟩
theorem op_eq : OpR X (compareOp .Eq) rEq := by
  intro pins s σ H x y v u Q I rx ry h
  obtain ⟨hs, q⟩ := h
  cases x with
  | non =>
    cases rx
    cases y with
    | non => cases ry; exact PySem.EqNone.eq_none_none (fin_bl I q (by simp))
    | bl j => cases ry; exact PySem.EqNone.eq_none_bool (fin_bl I q (by simp))
    | int j => obtain ⟨t', rfl⟩ := ry; exact PySem.EqNone.eq_none_int (fin_bl I q (by simp))
    | str j => obtain ⟨t', rfl⟩ := ry; exact PySem.EqNone.eq_none_str (fin_bl I q (by simp))
    | _ => exact absurd (show false = true from hs) Bool.false_ne_true
  | bl i =>
    cases rx
    cases y with
    | non => cases ry; exact PySem.EqNone.eq_bool_none (fin_bl I q (by simp))
    | bl j => cases ry; exact eq_bool (fin_bl I q dec_bl)
    | str j => obtain ⟨t', rfl⟩ := ry; exact PySem.EqMixed.eq_bool_str (fin_bl I q (by simp))
    | _ => exact absurd (show false = true from hs) Bool.false_ne_true
  | int i =>
    obtain ⟨t, rfl⟩ := rx
    cases y with
    | non => cases ry; exact PySem.EqNone.eq_int_none (fin_bl I q (by simp))
    | int j => obtain ⟨t', rfl⟩ := ry; exact eq_int (fin_bl I q dec_int)
    | str j => obtain ⟨t', rfl⟩ := ry; exact PySem.EqMixed.eq_int_str (fin_bl I q (by simp))
    | _ => exact absurd (show false = true from hs) Bool.false_ne_true
  | str i =>
    obtain ⟨t, rfl⟩ := rx
    cases y with
    | non => cases ry; exact PySem.EqNone.eq_str_none (fin_bl I q (by simp))
    | bl j => cases ry; exact PySem.EqMixed.eq_str_bool (fin_bl I q (by simp))
    | int j => obtain ⟨t', rfl⟩ := ry; exact PySem.EqMixed.eq_str_int (fin_bl I q (by simp))
    | str j => obtain ⟨t', rfl⟩ := ry; exact eq_str (fin_bl I q dec_str)
    | _ => exact absurd (show false = true from hs) Bool.false_ne_true
  | byt i =>
    obtain ⟨t, rfl⟩ := rx
    cases y with
    | byt j => obtain ⟨t', rfl⟩ := ry; exact PySem.W.eq_bytes (fin_bl I q dec_byt)
    | _ => exact absurd (show false = true from hs) Bool.false_ne_true
  | _ => cases y <;> exact absurd (show false = true from hs) Bool.false_ne_true
theorem op_ne : OpR X (compareOp .NotEq) rNe := by
  intro pins s σ H x y v u Q I rx ry h
  obtain ⟨hs, q⟩ := h
  cases x with
  | non =>
    cases rx
    cases y with
    | non => cases ry; exact PySem.EqNone.ne_none_none (fin_bl I q (by simp))
    | bl j => cases ry; exact PySem.EqNone.ne_none_bool (fin_bl I q (by simp))
    | int j => obtain ⟨t', rfl⟩ := ry; exact PySem.EqNone.ne_none_int (fin_bl I q (by simp))
    | str j => obtain ⟨t', rfl⟩ := ry; exact PySem.EqNone.ne_none_str (fin_bl I q (by simp))
    | _ => exact absurd (show false = true from hs) Bool.false_ne_true
  | bl i =>
    cases rx
    cases y with
    | non => cases ry; exact PySem.EqNone.ne_bool_none (fin_bl I q (by simp))
    | bl j => cases ry; exact ne_bool (fin_bl I q (congrArg not dec_bl))
    | str j => obtain ⟨t', rfl⟩ := ry; exact PySem.EqMixed.ne_bool_str (fin_bl I q (by simp))
    | _ => exact absurd (show false = true from hs) Bool.false_ne_true
  | int i =>
    obtain ⟨t, rfl⟩ := rx
    cases y with
    | non => cases ry; exact PySem.EqNone.ne_int_none (fin_bl I q (by simp))
    | int j => obtain ⟨t', rfl⟩ := ry; exact ne_int (fin_bl I q (congrArg not dec_int))
    | str j => obtain ⟨t', rfl⟩ := ry; exact PySem.EqMixed.ne_int_str (fin_bl I q (by simp))
    | _ => exact absurd (show false = true from hs) Bool.false_ne_true
  | str i =>
    obtain ⟨t, rfl⟩ := rx
    cases y with
    | non => cases ry; exact PySem.EqNone.ne_str_none (fin_bl I q (by simp))
    | bl j => cases ry; exact PySem.EqMixed.ne_str_bool (fin_bl I q (by simp))
    | int j => obtain ⟨t', rfl⟩ := ry; exact PySem.EqMixed.ne_str_int (fin_bl I q (by simp))
    | str j => obtain ⟨t', rfl⟩ := ry; exact ne_str (fin_bl I q (congrArg not dec_str))
    | _ => exact absurd (show false = true from hs) Bool.false_ne_true
  | byt i =>
    obtain ⟨t, rfl⟩ := rx
    cases y with
    | byt j => obtain ⟨t', rfl⟩ := ry; exact PySem.W.ne_bytes (fin_bl I q (congrArg not dec_byt))
    | _ => exact absurd (show false = true from hs) Bool.false_ne_true
  | _ => cases y <;> exact absurd (show false = true from hs) Bool.false_ne_true
theorem op_lt : OpR X (compareOp .Lt) (rI0 fun i j => .bl (decide (i < j))) := opB0 fun _ _ _ _ _ _ _ q => lt_int q
theorem op_le : OpR X (compareOp .LtE) (rI0 fun i j => .bl (decide (i ≤ j))) := opB0 fun _ _ _ _ _ _ _ q => le_int q
theorem op_gt : OpR X (compareOp .Gt) (rI0 fun i j => .bl (decide (j < i))) := opB0 fun _ _ _ _ _ _ _ q => gt_int q
theorem op_ge : OpR X (compareOp .GtE) (rI0 fun i j => .bl (decide (j ≤ i))) := opB0 fun _ _ _ _ _ _ _ q => ge_int q
theorem nomark (b : Expr) {op : CmpOp} (h : op ≠ .In := by decide) (h2 : op ≠ .NotIn := by decide) : behindInMarks op b = false := by
  have e1 : (op == CmpOp.In) = false := by cases op <;> first | rfl | exact absurd rfl h
  have e2 : (op == CmpOp.NotIn) = false := by cases op <;> first | rfl | exact absurd rfl h2
  cases b <;> simp [behindInMarks, e1, e2]
theorem pe_cmpR {op : CmpOp} {r : R2} (ho : OpR X (compareOp op) r) (ha : PE X a ta) (hb : PE X b tb) (hm : behindInMarks op b = false) : PE X (.Compare a [op] [b] pos) (tOp r ta tb) := by
  intro pins s σ H Q I h
  exact wpAny_Compare1 (binT ha hb I h fun v u s2 x y H2 I2 rx ry q => ho pins s2 σ H2 x y v u Q I2 rx ry q) hm
def tTest (t : TE) : TT := fun σ H Q => t σ H fun x H' => ∃ k, x = .bl k ∧ Q k H'
theorem pt_cmpR {op : CmpOp} {r : R2} (ho : OpR X (compareOp op) r) (ha : PE X a ta) (hb : PE X b tb) (hm : behindInMarks op b = false) : PT X (.Compare a [op] [b] pos) (tTest (tOp r ta tb)) := by
  intro pins s σ H Q I h
  refine wpAny_isTrue_Compare1 (thn (ha pins s σ H _ I h) fun v s1 ⟨x, H1, I1, r1, q1⟩ => thn (hb pins s1 σ H1 _ I1 q1) fun u s2 ⟨y, H2, I2, r2, q2⟩ =>
    thn (ho pins s2 σ H2 x y v u _ I2 r1 r2 q2) fun c s3 ⟨z, H3, I3, r3, k, e, q3⟩ => ?_) hm
  subst e
  cases r3
  exact wpAny_truthy_bool ⟨H3, I3, q3⟩
def tChain (r r' : R2) (ta tb tc : TE) : TE := fun σ H Q => ta σ H fun x H1 => tb σ H1 fun y H2 => r x y H2 fun z H3 => ∃ k, z = .bl k ∧
  (if k = true then tc σ H3 fun w' H4 => r' y w' H4 Q else Q (.bl false) H3)
theorem pe_chain {op op' : CmpOp} {r r' : R2} (ho : OpR X (compareOp op) r) (ho' : OpR X (compareOp op') r') (ha : PE X a ta) (hb : PE X b tb) (hc : PE X c tc)
    (hm : lastMarks [op, op'] [b, c] = false := by with_unfolding_all rfl) : PE X (.Compare a [op, op'] [b, c] pos) (tChain r r' ta tb tc) := by
  intro pins s σ H Q I h
  refine Compare_chain (thn (ha pins s σ H _ I h) fun v s1 ⟨x, H1, I1, r1, q1⟩ => chain_link (thn (hb pins s1 σ H1 _ I1 q1) fun u s2 ⟨y, H2, I2, r2, q2⟩ =>
    thn (ho pins s2 σ H2 x y v u _ I2 r1 r2 q2) fun d s3 ⟨z, H3, I3, r3, k, e, q3⟩ => ?_)) hm
  subst e
  cases r3
  refine wpAny_truthy_bool ?_
  cases k with
  | false => exact ite_ff ⟨.bl false, H3, I3, rfl, q3⟩
  | true => exact ite_tt (chain_last (thn (hc pins s3 σ H3 _ I3 q3) fun w' s4 ⟨z', H4, I4, r4, q4⟩ => ho' pins s4 σ H4 y z' u w' Q I4 r2 r4 q4))
theorem pt_chain {op op' : CmpOp} {r r' : R2} (ho : OpR X (compareOp op) r) (ho' : OpR X (compareOp op') r') (ha : PE X a ta) (hb : PE X b tb) (hc : PE X c tc)
    (hm : lastMarks [op, op'] [b, c] = false := by with_unfolding_all rfl) : PT X (.Compare a [op, op'] [b, c] pos) (tTest (tChain r r' ta tb tc)) := by
  intro pins s σ H Q I h
  refine isTrue_chain (thn (ha pins s σ H _ I h) fun v s1 ⟨x, H1, I1, r1, q1⟩ => test_link (thn (hb pins s1 σ H1 _ I1 q1) fun u s2 ⟨y, H2, I2, r2, q2⟩ =>
    thn (ho pins s2 σ H2 x y v u _ I2 r1 r2 q2) fun d s3 ⟨z, H3, I3, r3, k, e, q3⟩ => ?_)) hm
  subst e
  cases r3
  refine wpAny_truthy_bool ?_
  cases k with
  | false =>
    obtain ⟨k', e', q'⟩ := q3
    cases e'
    exact ite_ff ⟨H3, I3, q'⟩
  | true =>
    refine ite_tt (test_last (thn (hc pins s3 σ H3 _ I3 q3) fun w' s4 ⟨z', H4, I4, r4, q4⟩ => thn (ho' pins s4 σ H4 y z' u w' _ I4 r2 r4 q4) fun d' s5 ⟨z2, H5, I5, r5, k2, e2, q5⟩ => ?_))
    subst e2
    cases r5
    exact wpAny_truthy_bool ⟨H5, I5, q5⟩
theorem line63 : (sizeLine : Nat) < 2 ^ 63 := by rw [sizeLine_eq]; decide
theorem vals1 {x : V} {us : List Value} (r : Vals [x] us) : ∃ u, us = [u] ∧ RelV x u := by
  cases r with
  | cons r1 r2 => cases r2; exact ⟨_, rfl, r1⟩
theorem vals2 {x y : V} {us : List Value} (r : Vals [x, y] us) : ∃ u w', us = [u, w'] ∧ RelV x u ∧ RelV y w' := by
  cases r with
  | cons r1 r2 =>
    cases r2 with
    | cons r3 r4 => cases r4; exact ⟨_, _, rfl, r1, r3⟩
theorem call_max2 (hc : X.calm = true) : CallR X (.builtin "max") (fun xs H Q => ∃ i j, xs = [.int i, .int j] ∧ Q (.int (if j > i then j else i)) H) := by
  intro pins s σ H xs us Q I r h
  obtain ⟨i, j, rfl, q⟩ := h
  obtain ⟨u, w', rfl, ⟨t, rfl⟩, ⟨t', rfl⟩⟩ := vals2 r
  refine max_two_ints (I.ok.hd hc) fun h' tk k => ⟨_, H, I.kept k, ?_, q⟩
  by_cases hj : j > i
  · rw [if_pos hj, if_pos hj]; exact ⟨_, rfl⟩
  · rw [if_neg hj, if_neg hj]; exact ⟨_, rfl⟩
theorem call_min2 (hc : X.calm = true) : CallR X (.builtin "min") (fun xs H Q => ∃ i j, xs = [.int i, .int j] ∧ Q (.int (if j < i then j else i)) H) := by
  intro pins s σ H xs us Q I r h
  obtain ⟨i, j, rfl, q⟩ := h
  obtain ⟨u, w', rfl, ⟨t, rfl⟩, ⟨t', rfl⟩⟩ := vals2 r
  refine min_two_ints (I.ok.hd hc) fun h' tk k => ⟨_, H, I.kept k, ?_, q⟩
  by_cases hj : j < i
  · rw [if_pos hj, if_pos hj]; exact ⟨_, rfl⟩
  · rw [if_neg hj, if_neg hj]; exact ⟨_, rfl⟩
end
end L2
namespace L2
open PySem PySem.Spec PyProof.Rows
structure ObjM (h : Heap) (x dx C : Addr) (mA : Str → Option Value) : Prop where
  obj : h.get? x = some (PySem.W.instObj C dx)
  ns : h.Ns1 dx mA
  ne : dx ≠ x
theorem lookIn_ns {h : Heap} {dx : Addr} {mA : Str → Option Value} (n : h.Ns1 dx mA) : ∃ od, h.get? dx = some od ∧ ∀ name, PySem.W.lookIn name od = some (mA name) := by
  obtain ⟨o, es, ep, ho, hd, hk, _, hm⟩ := n
  refine ⟨o, ho, fun name => ?_⟩
  have e := hm name
  unfold nsFind findBy at e
  rw [← Array.find?_toList] at e
  unfold PySem.W.lookIn
  rw [hd]
  dsimp only
  split
  · rename_i y q
    rw [q] at e
    exact congrArg some e
  · rename_i q
    rw [q] at e
    have a : es.toList.any (·.refKey) = false := by
      rw [List.any_eq_false]
      intro y hy
      obtain ⟨z, t, hkey⟩ := hk y (Array.mem_toList_iff.mp hy)
      simp [DictEntry.refKey, hkey]
    have a' : ¬ es.toList.any (·.refKey) = true := by rw [a]; exact Bool.false_ne_true
    rw [if_neg a']
    exact congrArg some e
theorem ObjM.look {h : Heap} {x dx C : Addr} {mA : Str → Option Value} (I : ObjM h x dx C mA) : ∃ od, PySem.W.InstAt h x (PySem.W.instObj C dx) C (some od) ∧ ∀ name, PySem.W.lookIn name od = some (mA name) :=
  let ⟨od, ho, hl⟩ := lookIn_ns I.ns
  ⟨od, ⟨I.obj, rfl, rfl, ho⟩, hl⟩
section
variable {prog : Program} {w : World} {A : Around} {E : Value → Shared → Prop} {s : Shared} {K : PySem.W.Frag} {x dx C f : Addr} {mA : Str → Option Value} {name : Str} {v : Value}
theorem get_map {expr : Bool} {Q : Value → Shared → Prop} (X : K.In s.heap) (I : ObjM s.heap x dx C mA) (hg : PySem.W.plainGet K C name = true) (hh : PySem.W.hasDictIn K C = true)
    (ha : PySem.W.findIn K (.ref C) name = some none) (hv : mA name = some v) (hv' : PySem.W.handedIn v = true) (h : Q v { s with toks := s.toks + 1 }) :
    wpAny (model prog w) A (getAttr (.ref x) name expr) Q E s := by
  obtain ⟨od, J, hl⟩ := I.look
  exact PySem.W.get_value X J (PySem.W.plainGet_of hg).1 (PySem.W.findObj_own hh ha rfl (by rw [hl, hv])) hv' h
theorem get_meth {pl : Sem Bool} {Q : Value × List Value → Shared → Prop} (X : K.In s.heap) (I : ObjM s.heap x dx C mA) (hg : PySem.W.plainGet K C name = true)
    (hf : PySem.W.findIn K (.ref C) name = some (some (.ref f))) (ht : PySem.W.isFn K (.ref f) = true) (hv : mA name = none) (h : Q (.ref f, [.ref x]) s) :
    wpAny (model prog w) A (getMethod (.ref x) name pl) Q E s := by
  obtain ⟨od, J, hl⟩ := I.look
  exact PySem.W.method_fn X J (PySem.W.plainGet_of hg).1 (PySem.W.plainGet_of hg).2 hf (beq_iff_eq.mp ht) (by show (PySem.W.lookIn name od).map (·.isSome) = some false; rw [hl, hv]; rfl) h
theorem set_map {ns : List Str} {Q : Unit → Shared → Prop} (X : K.In s.heap) (I : ObjM s.heap x dx C mA)
    (hs : PySem.W.findIn K (.ref C) "__setattr__" = some (some (.builtin "object.__setattr__"))) (hp : PySem.W.plainOver K C = true) (ht : PySem.W.takerIn K C name = some none) (hh : PySem.W.hasDictIn K C = true)
    (hw : PySem.Within mA ns) (hsz : ns.length ≤ sizeLine)
    (h : ∀ h', ObjM h' x dx C (fun y => if y = name then some v else mA y) → Heap.SameBut dx s.heap h' → Q () { s with heap := h', toks := s.toks + 2 }) :
    wpAny (model prog w) A (setAttr (.ref x) name v) Q E s := by
  obtain ⟨od, J, hl⟩ := I.look
  refine PySem.W.set_plain X J hs (PySem.W.osa_open (s := { s with toks := s.toks + 1 }) (r := none) X J hp ht fun b => ?_)
  obtain ⟨cd, hc, hd'⟩ := PySem.W.any_some hh
  have hx : s.heap.get? x = some ⟨.ref C, some dx, .plain, #[]⟩ := I.obj
  refine wpAny_bind (wpAny_pure (wpAny_bind (wpAny_bind (wpAny_loadPart hx (wpAny_bind (PySem.W.Looks.here (s := { s with toks := s.toks + 1 }) (PySem.W.looks_clsIn X hc) ?_))))))
  rw [hd']
  refine wpAny_pure (a := some dx) (wpAny_bind (wpAny_pure (wpAny_bind ?_)))
  refine wpAny_nsSet1 (s := { s with toks := s.toks + 1 }) I.ns fun h' hn2 hs2 => ?_
  obtain ⟨oD, esD, epD, hoD, hdD, hcD⟩ := hn2.count (PySem.Within.cons name v hw)
  refine wpAny_bind (wpAny_lookBehind hoD (by rw [hdD]; exact pastItsLine_dict (Nat.le_trans hcD (by rw [List.length_cons]; omega))) ?_)
  exact wpAny_pure (h _ ⟨(hs2.2 _ (Ne.symm I.ne)).trans I.obj, hn2, I.ne⟩ hs2)
theorem make_map {R : Result → Shared → Prop} {vs : List Value} {kw : List (Str × Value)} (X : K.In s.heap) (hm : PySem.W.makesIn K C = true)
    (hi : PySem.W.findIn K (.ref C) "__init__" = some (some (.ref f))) (hf : PySem.W.typeIn K (.ref f) = some (.type "function"))
    (h : codeAny (model prog w) (A.under (.builtin "type.__call__" ⟨.ref C :: vs, kw⟩)) (.call (.ref f) ⟨.ref (s.heap.objs.size + 1) :: vs, kw⟩) (PySem.W.InitBack (s.heap.objs.size + 1) R)
      { s with heap := (s.heap.push PySem.W.emptyDict).push (PySem.W.instObj C s.heap.objs.size) }) :
    codeAny (model prog w) A (.call (.ref C) ⟨vs, kw⟩) R s := by
  obtain ⟨hh, g, d, t, os⟩ := s
  exact PySem.W.make_core (PySem.W.makes_of X hm) (PySem.W.looks_findIn X hi) (fun self => PySem.W.bind_fn X self hf) (.inl rfl) h
end
def putF (f : Str) (v : V) : List (Str × V) → List (Str × V)
  | [] => [(f, v)]
  | (g, x) :: r => if g = f then (g, v) :: r else (g, x) :: putF f v r
theorem lookup_putF (f g : Str) (v : V) : ∀ fs : List (Str × V), (putF f v fs).lookup g = if g = f then some v else fs.lookup g
  | [] => by
    show List.lookup g [(f, v)] = _
    by_cases h : g = f
    · have hb : (g == f) = true := beq_iff_eq.mpr h
      simp only [List.lookup, hb, if_pos h]
    · have hb : (g == f) = false := beq_eq_false_iff_ne.mpr h
      simp only [List.lookup, hb, if_neg h]
  | (k, x) :: r => by
    have ih := lookup_putF f g v r
    rw [show putF f v ((k, x) :: r) = (if k = f then (k, v) :: r else (k, x) :: putF f v r) from rfl]
    by_cases hk : k = f
    · rw [if_pos hk]
      by_cases h : g = k
      · have hb : (g == k) = true := beq_iff_eq.mpr h
        simp only [List.lookup, hb, if_pos (h.trans hk)]
      · have hb : (g == k) = false := beq_eq_false_iff_ne.mpr h
        simp only [List.lookup, hb, if_neg (fun e : g = f => h (e.trans hk.symm))]
    · rw [if_neg hk]
      by_cases h : g = k
      · have hb : (g == k) = true := beq_iff_eq.mpr h
        simp only [List.lookup, hb, if_neg (fun e : g = f => hk (h.symm.trans e))]
      · have hb : (g == k) = false := beq_eq_false_iff_ne.mpr h
        simp only [List.lookup, hb]
        exact ih
theorem keys_putF (f : Str) (v : V) : ∀ fs : List (Str × V), f ∈ (putF f v fs).map (·.1) ∧ ∀ g, g ∈ fs.map (·.1) → g ∈ (putF f v fs).map (·.1)
  | [] => ⟨by simp [putF], fun g h => by simp at h⟩
  | (k, x) :: r => by
    obtain ⟨i1, i2⟩ := keys_putF f v r
    rw [show putF f v ((k, x) :: r) = (if k = f then (k, v) :: r else (k, x) :: putF f v r) from rfl]
    by_cases hk : k = f
    · rw [if_pos hk]
      subst hk
      exact ⟨by simp, fun g h => by simpa using h⟩
    · rw [if_neg hk]
      refine ⟨?_, fun g h => ?_⟩
      · rw [List.map_cons]
        exact List.mem_cons_of_mem _ i1
      · rw [List.map_cons] at h ⊢
        rcases List.mem_cons.mp h with e | e
        · exact List.mem_cons.mpr (.inl e)
        · exact List.mem_cons_of_mem _ (i2 g e)
theorem length_putF (f : Str) (v : V) : ∀ fs : List (Str × V), (putF f v fs).length ≤ fs.length + 1
  | [] => by simp [putF]
  | (k, x) :: r => by
    have ih := length_putF f v r
    rw [show putF f v ((k, x) :: r) = (if k = f then (k, v) :: r else (k, x) :: putF f v r) from rfl]
    by_cases hk : k = f
    · rw [if_pos hk, List.length_cons, List.length_cons]; omega
    · rw [if_neg hk, List.length_cons, List.length_cons]; omega
theorem RelO.some_of {v : V} {o : Option Value} (r : RelO (some v) o) : ∃ u, o = some u ∧ RelV v u := by
  cases o with
  | none => exact (show False from r).elim
  | some u => exact ⟨u, rfl, r⟩
theorem RelO.none_of {o : Option Value} (r : RelO none o) : o = none := by
  cases o with
  | none => rfl
  | some u => exact (show False from r).elim
theorem handed_of {v : V} {u : Value} (r : RelV v u) : PySem.W.handedIn u = true := by
  cases v with
  | non => cases (show u = Value.none from r); rfl
  | bl b => cases (show u = Value.bool b from r); rfl
  | int i => obtain ⟨t, e⟩ := (show ∃ t, u = Value.int i t from r); cases e; rfl
  | str x => obtain ⟨t, e⟩ := (show ∃ t, u = Value.str x t from r); cases e; rfl
  | byt b => obtain ⟨t, e⟩ := (show ∃ t, u = Value.bytes b t from r); cases e; rfl
  | flt b => obtain ⟨t, e⟩ := (show ∃ t, u = Value.float b t from r); cases e; rfl
  | ref a => cases (show u = Value.ref a from r); rfl
  | ty n => cases (show u = Value.type n from r); rfl
section
variable {P : Program} {w : World} {H H' : Hp} {h h' : Heap} {a C dx : Addr} {fs fs' : List (Str × V)}
theorem ins_get (hok : HOk P w H h) (e : H a = some (.ins C dx fs)) : ∃ mA, ObjM h a dx C mA ∧ (∀ f, RelO (fs.lookup f) (mA f)) ∧ PySem.Within mA (fs.map (·.1)) ∧ fs.length ≤ 1000 ∧ H dx = some (.own a) := by
  obtain ⟨d, z, ne, ob, mA, n, r, q⟩ := (show ObjOk P w H h a (.ins C dx fs) from hok a _ e)
  exact ⟨mA, ⟨ob, n, ne⟩, r, q, z, d⟩
end
structure Cls (K : PySem.W.Frag) (C : Addr) : Prop where
  pg : PySem.W.plainGet K C Str.empty = true
  hd : PySem.W.hasDictIn K C = true
  po : PySem.W.plainOver K C = true
  sa : PySem.W.findIn K (.ref C) "__setattr__" = some (some (.builtin "object.__setattr__"))
theorem Cls.get {K : PySem.W.Frag} {C : Addr} (c : Cls K C) (f : Str) : PySem.W.plainGet K C f = true := c.pg
def NoAttr (K : PySem.W.Frag) (C : Addr) (f : Str) : Prop := PySem.W.findIn K (.ref C) f = some none
theorem NoAttr.taker {K : PySem.W.Frag} {C : Addr} {f : Str} (n : NoAttr K C f) : PySem.W.takerIn K C f = some none := by
  unfold PySem.W.takerIn
  rw [show PySem.W.findIn K (.ref C) f = some none from n]
  rfl
structure Meth (K : PySem.W.Frag) (C : Addr) (m : Str) (f : Addr) : Prop where
  at_ : PySem.W.findIn K (.ref C) m = some (some (.ref f))
  fn : PySem.W.isFn K (.ref f) = true
  kp : PySem.W.keepIn K (.ref f) = true
section
variable {X : Cx} {pins : List (Addr × Obj)} {σ : St} {H : Hp} {s : Shared} {a C dx : Addr} {fs : List (Str × V)} {f : Str} {v : V} {A : Around} {E : Value → Shared → Prop}
theorem getattr_ok {b : Bool} {Q : Value → Shared → Prop} (I : Inv X pins σ H s) (e : H a = some (.ins C dx fs)) (c : Cls X.K C) (n : NoAttr X.K C f) (l : fs.lookup f = some v)
    (h : ∀ u s', Inv X pins σ H s' → RelV v u → Q u s') : wpAny (model X.prog X.w) A (getAttr (.ref a) f b) Q E s := by
  obtain ⟨mA, O, r, _, _, _⟩ := ins_get I.hok e
  obtain ⟨u, hu, ru⟩ := RelO.some_of (v := v) (o := mA f) (by rw [← l]; exact r f)
  exact get_map I.kIn O (c.get f) c.hd n hu (handed_of ru) (h u _ (I.tok _) ru)
theorem getmeth_ok {m : Str} {g : Addr} {pl : Sem Bool} {Q : Value × List Value → Shared → Prop} (I : Inv X pins σ H s) (e : H a = some (.ins C dx fs)) (c : Cls X.K C) (k : Meth X.K C m g) (l : fs.lookup m = none)
    (h : Q (.ref g, [.ref a]) s) : wpAny (model X.prog X.w) A (getMethod (.ref a) m pl) Q E s := by
  obtain ⟨mA, O, r, _, _, _⟩ := ins_get I.hok e
  have hn : mA m = none := RelO.none_of (by rw [← l]; exact r m)
  exact get_meth I.kIn O (c.get m) k.at_ k.fn hn h
theorem setattr_ok {y : V} {u : Value} {Q : Unit → Shared → Prop} (I : Inv X pins σ H s) (e : H a = some (.ins C dx fs)) (c : Cls X.K C) (n : NoAttr X.K C f) (hl : fs.length < 1000) (ry : RelV y u)
    (h : ∀ s', Inv X pins σ (upd H a (.ins C dx (putF f y fs))) s' → Q () s') : wpAny (model X.prog X.w) A (setAttr (.ref a) f u) Q E s := by
  obtain ⟨mA, O, r, wi, _, ho⟩ := ins_get I.hok e
  have hz : (fs.map (·.1)).length ≤ sizeLine := by rw [List.length_map, sizeLine_eq]; omega
  refine set_map I.kIn O c.sa c.po n.taker c.hd wi hz fun h' O' sb => h _ ?_
  have hd : ∃ o, h'.get? dx = some o := let ⟨o, _, _, e', _⟩ := O'.ns; ⟨o, e'⟩
  refine I.write (x := a) (e := dx) (by rw [e]; exact True.intro) (.inr ho) (fun b q hb z => (sb.2 b hb).trans z) hd ?_
  refine ⟨by rw [upd_ne O.ne]; exact ho, ?_, O.ne, O'.obj, _, O'.ns, fun g => ?_, fun g hg => ?_⟩
  · have := length_putF f y fs; omega
  · show RelO ((putF f y fs).lookup g) (if g = f then some u else mA g)
    rw [lookup_putF]
    by_cases q : g = f
    · rw [if_pos q, if_pos q]; exact ry
    · rw [if_neg q, if_neg q]; exact r g
  · by_cases q : g = f
    · rw [q]; exact (keys_putF f y fs).1
    · refine (keys_putF f y fs).2 g (wi g fun z => hg ?_)
      show (if g = f then some u else mA g) = none
      rw [if_neg q]; exact z
theorem Inv.made (I : Inv X pins σ H s) : Inv X pins σ (upd (upd H s.heap.objs.size (.own (s.heap.objs.size + 1))) (s.heap.objs.size + 1) (.ins C s.heap.objs.size []))
    { s with heap := (s.heap.push PySem.W.emptyDict).push (PySem.W.instObj C s.heap.objs.size) } := by
  have e1 : (s.heap.push PySem.W.emptyDict).get? s.heap.objs.size = some PySem.W.emptyDict := Heap.get?_push_size s.heap rfl
  have e2 : ((s.heap.push PySem.W.emptyDict).push (PySem.W.instObj C s.heap.objs.size)).get? (s.heap.objs.size + 1) = some (PySem.W.instObj C s.heap.objs.size) := by
    have := Heap.get?_push_size (s.heap.push PySem.W.emptyDict) (o := PySem.W.instObj C s.heap.objs.size) rfl
    rwa [Heap.size_push] at this
  have e3 : (s.heap.push PySem.W.emptyDict).Ns s.heap.objs.size (fun _ => none) := ⟨PySem.W.emptyDict, #[], _, e1, rfl, (fun e he => absurd he (by simp)), fun _ => rfl⟩
  have I1 := I.laid (a := s.heap.objs.size) (o := .own (s.heap.objs.size + 1)) (h' := s.heap.push PySem.W.emptyDict) (t' := s.toks) (fun b u q => Heap.get?_push_of_some _ q) (Nat.le_refl _) ⟨_, e1⟩
  refine I1.laid (a := s.heap.objs.size + 1) (o := .ins C s.heap.objs.size []) (t' := s.toks) (fun b u q => Heap.get?_push_of_some _ q) (Nat.le_of_eq (Heap.size_push _ _)) ?_
  have ne : s.heap.objs.size ≠ s.heap.objs.size + 1 := Nat.ne_of_lt (Nat.lt_succ_self _)
  refine ⟨by rw [upd_ne ne, upd_same], Nat.zero_le _, ne, e2, fun _ => none, (Heap.Ns1.of_empty e3).at fun o q => Heap.get?_push_of_some _ q, fun _ => True.intro, fun y hy => absurd rfl hy⟩
theorem attr_of {prog : Program} {w : World} {env : Env} {e : Expr} {f : Str} {pos : Pos} {s : Shared} {Q : Value → Shared → Prop} (hb : attributeBase e f env (eval e env) = eval e env)
    (h : wpAny (model prog w) A (eval e env) (fun o s₁ => wpAny (model prog w) A (getAttr o f true) Q E s₁) E s) : wpAny (model prog w) A (eval (.Attribute e f pos) env) Q E s :=
  Attribute_any_ h (by rw [arm_eval_Attribute, hb])
end
def tFld (K : PySem.W.Frag) (ta : TE) (f : Str) : TE := fun σ H Q => ta σ H fun x H1 => ∃ a C dx fs v, x = .ref a ∧ H1 a = some (.ins C dx fs) ∧ Cls K C ∧ NoAttr K C f ∧ fs.lookup f = some v ∧ Q v H1
def sFld (K : PySem.W.Frag) (ta tv : TE) (f : Str) : TS := fun D σ H => tv σ H fun y H1 => ta σ H1 fun x H2 => ∃ a C dx fs, x = .ref a ∧ H2 a = some (.ins C dx fs) ∧ Cls K C ∧ NoAttr K C f ∧ fs.length < 1000 ∧
  D.nx σ (upd H2 a (.ins C dx (putF f y fs)))
section
variable {X : Cx} {o e value : Expr} {f : Str} {pos pos' tpos : Pos} {ta tv : TE}
theorem pe_fld (he : PE X e ta) (hb : attributeBase e f X.env (eval e X.env) = eval e X.env) : PE X (.Attribute e f pos) (tFld X.K ta f) := by
  intro pins s σ H Q I h
  refine attr_of hb (thn (he pins s σ H _ I h) fun u s1 ⟨x, H1, I1, rx, a, C, dx, fs, v, ex, ea, c, n, l, q⟩ => ?_)
  subst ex
  obtain rfl : u = Value.ref a := rx
  exact getattr_ok I1 ea c n l fun u' s2 I2 ru => ⟨v, H1, I2, ru, q⟩
theorem ps_fld (ha : PE X o ta) (hv : PE X value tv) (hs : swapsWith value (some (.Attribute o f pos')) pos.line X.env = pure false) : PS X (.Assign [.Attribute o f pos'] value pos) (sFld X.K ta tv f) := by
  intro pins s σ H D I h
  refine plainObj_wpAny_Assign_Attribute (thn (hv pins s σ H _ I h) fun u s1 ⟨y, H1, I1, ry, q⟩ => thn (ha pins s1 σ H1 _ I1 q) fun ov s2 ⟨x, H2, I2, rx, a, C, dx, fs, ex, ea, c, n, l, q2⟩ => ?_) hs
  subst ex
  obtain rfl : ov = Value.ref a := rx
  exact setattr_ok I2 ea c n l ry fun s3 I3 => ⟨σ, _, I3, q2⟩
end
section
variable {X : Cx} {pins : List (Addr × Obj)} {σ : St} {H : Hp} {s : Shared} {A : Around} {E : Value → Shared → Prop} {Q : Value → Shared → Prop} {c : Value} {b : Bool}
end
end L2
namespace L2
open PySem PySem.Spec PyProof.Rows
structure Room (k : Nat) (A : Around) : Prop where
  hd : A.handled = none
  dp : A.depth + 3 * k + 5 < recursionLimit
  un : A.units + 16 * k + 200 < cLine
theorem Room.mono {j k : Nat} {A : Around} (r : Room k A) (h : j ≤ k) : Room j A := ⟨r.hd, by have := r.dp; omega, by have := r.un; omega⟩
theorem Room.deeper {k : Nat} {A : Around} (r : Room (k + 1) A) (env : Env) : Room k (A.deeper env) :=
  ⟨r.hd, by have := r.dp; show A.depth + 1 + 3 * k + 5 < _; omega, by have := r.un; show A.units + 3 + 16 * k + 200 < _; omega⟩
theorem Room.in1 {k : Nat} {A : Around} (r : Room (k + 1) A) : Room k A.in1 :=
  ⟨r.hd, by have := r.dp; show A.depth + 3 * k + 5 < _; omega, by have := r.un; show A.units + 1 + 16 * k + 200 < _; omega⟩
theorem make_depth {A : Around} {C : Addr} {us : List Value} {kw : List (Str × Value)} : (A.under (.builtin "type.__call__" ⟨.ref C :: us, kw⟩)).depth = A.depth + 1 := by
  first | rfl | simp [Around.under, Code.weight, Code.isCreation, Code.isGuard, Code.isCaller, Code.frames, Code.isFrame, guardIds]
theorem make_units {A : Around} {C : Addr} {us : List Value} {kw : List (Str × Value)} : (A.under (.builtin "type.__call__" ⟨.ref C :: us, kw⟩)).units = A.units + 1 := by
  first | rfl | simp [Around.under, Code.cUnits, Code.frames, Code.isFrame]
theorem Room.make {k : Nat} {A : Around} (r : Room (k + 1) A) (C : Addr) (us : List Value) (kw : List (Str × Value)) : Room k (A.under (.builtin "type.__call__" ⟨.ref C :: us, kw⟩)) :=
  ⟨r.hd, by have := r.dp; rw [make_depth]; omega, by have := r.un; rw [make_units]; omega⟩
theorem Room.depth {k : Nat} {A : Around} (r : Room k A) : A.depth < recursionLimit := by have := r.dp; omega
theorem Room.units {k : Nat} {A : Around} (r : Room k A) : A.units + 64 < cLine := by have := r.un; omega
def tNil : TA := fun _ H Q => Q [] H
def tCons (ta : TE) (tr : TA) : TA := fun σ H Q => ta σ H fun x H1 => tr σ H1 fun xs H2 => Q (x :: xs) H2
section
variable {X : Cx} {e : Expr} {es : List Expr} {te : TE} {t : TA} {pos : Pos}
theorem pa_nil : PA X [] tNil := fun _ _ _ _ H Q I h => Calls.spliced_nil ⟨[], H, I, .nil, h⟩
theorem pa_cons (ha : PE X e te) (hr : PA X es t) (hs : starEach (e :: es) X.env = (false, eval e X.env) :: starEach es X.env := by rfl) : PA X (e :: es) (tCons te t) := by
  intro pos pins s σ H Q I h
  rw [hs]
  show wpAny _ _ (spliced ((false, eval e X.env) :: backTo pos (starEach es X.env))) _ _ s
  refine Calls.spliced_cons (thn (ha pins s σ H _ I h) fun u s1 ⟨x, H1, I1, r1, q1⟩ => ?_)
  exact thn (hr pos pins s1 σ H1 _ I1 q1) fun us s2 ⟨xs, H2, I2, r2, q2⟩ => ⟨x :: xs, H2, I2, .cons r1 r2, q2⟩
def tLst (t : TA) : TE := fun σ H Q => t σ H fun xs H1 => xs.length ≤ sizeLine ∧ ∀ p, H1 p = none → Q (.ref p) (upd H1 p (.lst xs))
theorem pe_lst (h : PA X es t) : PE X (.List es pos) (tLst t) := by
  intro pins s σ H Q I hq
  refine wpAny_List_spliced (thn (h pos pins s σ H _ I hq) fun us s1 ⟨xs, H1, I1, r, z, q⟩ => ⟨by rw [← r.length]; exact z, ?_⟩)
  have hf : H1 s1.heap.objs.size = none := I1.hok.fresh (Nat.le_refl _)
  refine ⟨.ref s1.heap.objs.size, upd H1 s1.heap.objs.size (.lst xs), I1.laid (t' := s1.toks) (fun b u e => Heap.get?_push_of_some _ e) (Nat.le_refl _) ?_, rfl, q _ hf⟩
  exact ⟨z, us, 0, r, Heap.get?_push_size _ rfl⟩
end
abbrev Sp := List V → Hp → VK → XK → Prop
abbrev CXT := List Env → Hp → Shared → XK → Value → Shared → Prop
structure Env0 (P : Program) (w : World) (K : PySem.W.Frag) (mg : Str → Option Value) (base : Heap) (A : Around) (outer : List Env) (s : Shared) (H : Hp) : Prop where
  frames : A.frames = some outer
  mod : Mod K mg base
  bs : ∀ b o, base.get? b = some o → s.heap.get? b = some o ∧ H b = none
  bsz : base.objs.size ≤ s.heap.objs.size
  funs : s.heap.FunFrames base outer
  frf : ∀ b ∈ frs outer, H b = none
  hok : HOk P w H s.heap
  bare : AllBare s.gens
def CE (outer : List Env) (P : Program) (w : World) (H : Hp) (s : Shared) (Q : VK) (u : Value) (s' : Shared) : Prop :=
  ∃ v H', s'.os = s.os ∧ AllBare s'.gens ∧ Un (frs outer) [] H H' s.heap s'.heap ∧ HOk P w H' s'.heap ∧ RelV v u ∧ Q v H'
def CR (CX : CXT) (outer : List Env) (P : Program) (w : World) (H : Hp) (s : Shared) (Q : VK) (E : XK) (r : Result) (s' : Shared) : Prop :=
  match r with
  | .ok (.ret u) => CE outer P w H s Q u s'
  | .ok _ => False
  | .error e => CX outer H s E e s'
structure FnOk (P : Program) (w : World) (K : PySem.W.Frag) (mg : Str → Option Value) (base : Heap) (CX : CXT) (k : Nat) (f : Addr) (fd : FuncData) (ps : List Str) (sp : Sp) : Prop where
  len : ∀ vs H Q E, sp vs H Q E → vs.length = ps.length
  run : ∀ (A : Around) (outer : List Env) (s : Shared) (H : Hp) (args : Args) (us : List Value) (vs : List V) (Q : VK) (E : XK), Room k A → Env0 P w K mg base A outer s H → BindsTo s fd args (ps.zip us) → Vals vs us → sp vs H Q E →
    codeAny (model P w) A (.call (.ref f) args) (CR CX outer P w H s Q E) s
theorem Env0.make {P : Program} {w : World} {K : PySem.W.Frag} {mg : Str → Option Value} {base : Heap} {A : Around} {outer : List Env} {s : Shared} {H : Hp} (e : Env0 P w K mg base A outer s H) (C : Addr) (us : List Value) (kw : List (Str × Value)) :
    Env0 P w K mg base (A.under (.builtin "type.__call__" ⟨.ref C :: us, kw⟩)) outer s H := ⟨by first | exact e.frames | (simpa [Around.under, Code.envs, Code.isFrame, pushEnvs] using e.frames), e.mod, e.bs, e.bsz, e.funs, e.frf, e.hok, e.bare⟩
section
variable {X : Cx} {pins : List (Addr × Obj)} {σ : St} {H : Hp} {s s' : Shared}
theorem Inv.env0 (I : Inv X pins σ H s) : Env0 X.prog X.w X.K X.mg X.base X.A X.stack s H :=
  ⟨I.ok.frames, I.ok.mod, I.bs, Nat.le_trans I.ok.bsz I.sz, I.stack, I.stkFree, I.hok, I.bare⟩
theorem Inv.after {Q : VK} {u : Value} (I : Inv X pins σ H s) (h : CE X.stack X.prog X.w H s Q u s') : EP X pins σ Q u s' := by
  obtain ⟨v, H', os, bare, un, hok, r, q⟩ := h
  obtain ⟨hh, g, d, t, os'⟩ := s'
  obtain rfl : os' = s.os := os
  exact ⟨v, H', I.call (h' := hh) (g' := g) (d' := d) (t' := t) (ch := []) un hok bare (fun b z => absurd z (by simp)), r, q⟩
end
def tCall (sp : Sp) (dvs : List V) (E : XK) (t : TA) : TE := fun σ H Q => t σ H fun vs H1 => sp (vs ++ dvs) H1 Q E
def tMeth (C : Addr) (m : Str) (sp : Sp) (dvs : List V) (E : XK) (ta : TE) (t : TA) : TE := fun σ H Q => ta σ H fun x H1 => ∃ a dx fs, x = .ref a ∧ H1 a = some (.ins C dx fs) ∧ fs.lookup m = none ∧
  t σ H1 fun vs H2 => sp (x :: (vs ++ dvs)) H2 Q E
def tMake (C : Addr) (sp : Sp) (dvs : List V) (E : XK) (t : TA) : TE := fun σ H Q => t σ H fun vs H1 => ∀ x dx, H1 x = none → H1 dx = none → dx ≠ x →
  sp (.ref x :: (vs ++ dvs)) (upd (upd H1 dx (.own x)) x (.ins C dx [])) (fun v H2 => v = .non ∧ Q (.ref x) H2) E
def Binds (K : PySem.W.Frag) (fd : FuncData) (ps : List Str) (ds : List Value) : Prop :=
  ∀ (s : Shared) (us : List Value), K.In s.heap → (us ++ ds).length = ps.length → BindsTo s fd ⟨us, []⟩ (ps.zip (us ++ ds))
theorem Binds.all {K : PySem.W.Frag} {fd : FuncData} {ps : List Str} (h : ∀ us : List Value, us.length = ps.length → bindArgs fd ⟨us, []⟩ = pure (ps.zip us)) : Binds K fd ps [] := fun s us _ hl => by
  rw [List.append_nil] at hl ⊢
  exact .of_eq (h us hl)
def Passes (CX : CXT) (X : Cx) (E : XK) : Prop := ∀ (pins : List (Addr × Obj)) (σ : St) (H : Hp) (s : Shared) (e : Value) (s' : Shared), Inv X pins σ H s → CX X.stack H s E e s' → X.xe e s'
section
variable {X : Cx} {CX : CXT} {k : Nat} {f C : Addr} {fd : FuncData} {ps : List Str} {sp : Sp} {dvs : List V} {ds : List Value} {E : XK} {x m : Str} {p pos apos : Pos} {e o : Expr} {es : List Expr} {ta : TE} {t : TA}
theorem run_fn {pins : List (Addr × Obj)} {σ : St} {H : Hp} {s : Shared} {Q : VK} {us : List Value} {vs : List V} (F : FnOk X.prog X.w X.K X.mg X.base CX k f fd ps sp) (hr : Room k X.A) (hb : Binds X.K fd ps ds) (hd : Vals dvs ds) (hx : Passes CX X E)
    (I : Inv X pins σ H s) (r : Vals vs us) (h : sp (vs ++ dvs) H Q E) : wpAny (model X.prog X.w) X.A (call (.ref f) us) (EP X pins σ Q) X.xe s := by
  have r2 : Vals (vs ++ dvs) (us ++ ds) := r.append hd
  have hl : (us ++ ds).length = ps.length := by rw [← r2.length]; exact F.len _ _ _ _ h
  refine wpAny_call (codeAny_mono (F.run X.A X.stack s H ⟨us, []⟩ (us ++ ds) (vs ++ dvs) Q E hr I.env0 (hb s us I.kIn hl) r2 h) fun r s' hq => ?_)
  cases r with
  | error e => exact hx pins σ H s e s' I hq
  | ok fl =>
    cases fl with
    | ret u => exact I.after hq
    | next => exact False.elim hq
    | brk => exact False.elim hq
    | cont => exact False.elim hq
theorem pe_call (F : FnOk X.prog X.w X.K X.mg X.base CX k f fd ps sp) (hr : Room k X.A) (hg : Gl X x) (hm : X.mg x = some (.ref f)) (hk : PySem.W.keepIn X.K (.ref f) = true) (hb : Binds X.K fd ps ds) (hd : Vals dvs ds) (hx : Passes CX X E)
    (ha : PA X (e :: es) t) (hdb : (x == ("__debug__" : Str)) = false := by decide) (he : starEach (e :: es) X.env = (false, eval e X.env) :: starEach es X.env := by rfl) (hpl : (backTo pos (starEach es X.env)).any (·.1) = false := by rfl) :
    PE X (.Call (.Name x p) (e :: es) [] pos) (tCall sp dvs E t) := by
  intro pins s σ H Q I h
  refine wpAny_Call_Name_kw (ld_glob I hg hm ?_ hdb)
  refine PySem.W.callWith_K (h₀ := X.base) I.ok.mod.kin hk (thn (ha pos pins s σ H _ I h) fun us s1 ⟨vs, H1, I1, r, q⟩ => ⟨I1.kIn, ?_⟩) he hpl
  exact run_fn F hr hb hd hx I1 r q
theorem pe_call0 (F : FnOk X.prog X.w X.K X.mg X.base CX k f fd ps sp) (hr : Room k X.A) (hg : Gl X x) (hm : X.mg x = some (.ref f)) (hk : PySem.W.keepIn X.K (.ref f) = true) (hb : Binds X.K fd ps ds) (hd : Vals dvs ds) (hx : Passes CX X E)
    (hdb : (x == ("__debug__" : Str)) = false := by decide) : PE X (.Call (.Name x p) [] [] pos) (tCall sp dvs E tNil) := by
  intro pins s σ H Q I h
  refine wpAny_Call_Name_kw (ld_glob I hg hm ?_ hdb)
  exact PySem.W.callWith_K0 I.kIn hk (run_fn (us := []) F hr hb hd hx I .nil h)
theorem pe_meth {pl : Sem Bool} (he : PE X o ta) (c : Cls X.K C) (hm : Meth X.K C m f) (F : FnOk X.prog X.w X.K X.mg X.base CX k f fd ps sp) (hr : Room k X.A) (hb : Binds X.K fd ps ds) (hd : Vals dvs ds) (hx : Passes CX X E) (ha : PA X (e :: es) t)
    (hst : starEach (e :: es) X.env = (false, eval e X.env) :: starEach es X.env := by rfl) (hpl : (backTo pos (starEach es X.env)).any (·.1) = false := by rfl)
    (ht : eval (.Call (.Attribute o m apos) (e :: es) [] pos) X.env = (do
      let ov ← eval o X.env
      standAt apos.atName
      let (f, first) ← holding [ov] (getMethod ov m pl)
      callWith pos f first (backTo pos (starEach (e :: es) X.env)) (backToKw pos (keywordEach [] X.env))) := by rfl) :
    PE X (.Call (.Attribute o m apos) (e :: es) [] pos) (tMeth C m sp dvs E ta t) := by
  intro pins s σ H Q I h
  refine PySem.W.methodCall_KW (pl := pl) (thn (he pins s σ H _ I h) fun u s1 ⟨x, H1, I1, rx, a, dx, fs, ex, ea, l, q⟩ => ?_) ht
  subst ex
  obtain rfl : u = Value.ref a := rx
  refine getmeth_ok I1 ea c hm l ?_
  refine PySem.W.callWith_K (first := [.ref a]) (h₀ := X.base) I.ok.mod.kin hm.kp (thn (ha pos pins s1 σ H1 _ I1 q) fun us s2 ⟨vs, H2, I2, r, q2⟩ => ⟨I2.kIn, ?_⟩) hst hpl
  exact run_fn (us := .ref a :: us) (vs := .ref a :: vs) F hr hb hd hx I2 (.cons rfl r) q2
theorem pe_meth0 {pl : Sem Bool} (he : PE X o ta) (c : Cls X.K C) (hm : Meth X.K C m f) (F : FnOk X.prog X.w X.K X.mg X.base CX k f fd ps sp) (hr : Room k X.A) (hb : Binds X.K fd ps ds) (hd : Vals dvs ds) (hx : Passes CX X E)
    (ht : eval (.Call (.Attribute o m apos) [] [] pos) X.env = (do
      let ov ← eval o X.env
      standAt apos.atName
      let (f, first) ← holding [ov] (getMethod ov m pl)
      callWith pos f first (backTo pos (starEach [] X.env)) (backToKw pos (keywordEach [] X.env))) := by rfl) :
    PE X (.Call (.Attribute o m apos) [] [] pos) (tMeth C m sp dvs E ta tNil) := by
  intro pins s σ H Q I h
  refine PySem.W.methodCall_KW (pl := pl) (thn (he pins s σ H _ I h) fun u s1 ⟨x, H1, I1, rx, a, dx, fs, ex, ea, l, q⟩ => ?_) ht
  subst ex
  obtain rfl : u = Value.ref a := rx
  refine getmeth_ok I1 ea c hm l ?_
  exact PySem.W.callWith_K0 (first := [.ref a]) I1.kIn hm.kp (run_fn (us := [.ref a]) (vs := [.ref a]) F hr hb hd hx I1 (.cons rfl .nil) q)
structure Mk (K : PySem.W.Frag) (C f : Addr) : Prop where
  makes : PySem.W.makesIn K C = true
  init : PySem.W.findIn K (.ref C) "__init__" = some (some (.ref f))
  fn : PySem.W.isFn K (.ref f) = true
  kp : PySem.W.keepIn K (.ref C) = true
theorem run_make {pins : List (Addr × Obj)} {σ : St} {H : Hp} {s : Shared} {Q : VK} {us : List Value} {vs : List V} (M : Mk X.K C f) (F : FnOk X.prog X.w X.K X.mg X.base CX k f fd ps sp) (hr : Room (k + 1) X.A) (hb : Binds X.K fd ps ds) (hd : Vals dvs ds)
    (hx : Passes CX X E) (I : Inv X pins σ H s) (r : Vals vs us)
    (h : ∀ x dx, H x = none → H dx = none → dx ≠ x → sp (.ref x :: (vs ++ dvs)) (upd (upd H dx (.own x)) x (.ins C dx [])) (fun v H2 => v = .non ∧ Q (.ref x) H2) E) :
    wpAny (model X.prog X.w) X.A (call (.ref C) us) (EP X pins σ Q) X.xe s := by
  have hq := h (s.heap.objs.size + 1) s.heap.objs.size (I.hok.fresh (Nat.le_succ _)) (I.hok.fresh (Nat.le_refl _)) (Nat.ne_of_lt (Nat.lt_succ_self _))
  have I2 := Inv.made (C := C) I
  have r2 : Vals (V.ref (s.heap.objs.size + 1) :: (vs ++ dvs)) (Value.ref (s.heap.objs.size + 1) :: (us ++ ds)) := .cons rfl (r.append hd)
  have hl : (Value.ref (s.heap.objs.size + 1) :: us ++ ds).length = ps.length := by
    have e := r2.length
    rw [F.len _ _ _ _ hq] at e
    exact e.symm
  refine wpAny_call (make_map (f := f) I.kIn M.makes M.init (beq_iff_eq.mp M.fn) (codeAny_mono (F.run _ X.stack _ _ ⟨Value.ref (s.heap.objs.size + 1) :: us, []⟩ (Value.ref (s.heap.objs.size + 1) :: (us ++ ds)) _ _ E (hr.make C us [])
    (I2.env0.make C us []) (hb _ (Value.ref (s.heap.objs.size + 1) :: us) I2.kIn hl) r2 hq) fun r s' hq' => ?_))
  cases r with
  | error e => exact hx pins σ _ _ e s' I2 hq'
  | ok fl =>
    cases fl with
    | ret u =>
      obtain ⟨v, H', I3, rv, ev, q3⟩ := I2.after hq'
      subst ev
      exact ⟨rv, ⟨V.ref (s.heap.objs.size + 1), H', I3, rfl, q3⟩⟩
    | next => exact False.elim hq'
    | brk => exact False.elim hq'
    | cont => exact False.elim hq'
theorem pe_make0 (M : Mk X.K C f) (F : FnOk X.prog X.w X.K X.mg X.base CX k f fd ps sp) (hr : Room (k + 1) X.A) (hg : Gl X x) (hm : X.mg x = some (.ref C)) (hb : Binds X.K fd ps ds) (hd : Vals dvs ds) (hx : Passes CX X E)
    (hdb : (x == ("__debug__" : Str)) = false := by decide) : PE X (.Call (.Name x p) [] [] pos) (tMake C sp dvs E tNil) := by
  intro pins s σ H Q I h
  refine wpAny_Call_Name_kw (ld_glob I hg hm ?_ hdb)
  exact PySem.W.callWith_K0 I.kIn M.kp (run_make (us := []) M F hr hb hd hx I .nil h)
end
section
variable {X : Cx} {CX : CXT} {k : Nat} {f C : Addr} {fd : FuncData} {ps ks : List Str} {sp : Sp} {E : XK} {x m : Str} {p pos apos kpos : Pos} {e o : Expr} {es : List Expr} {kws : List Keyword} {te ta : TE} {t tk : TA} {nm : Option Str}
variable {g : List Value → List Value → List Value} {gV : List V → List V → List V}
end
structure FnScope (N P : List Str) (sc : Scope) : Prop where
  kind : sc.kind = .function
  co : sc.isCoroutine = false
  gen : sc.isGenerator = false
  nd : N.Nodup
  pre : N.take P.length = P
  par : ∀ x ∈ P, sc.names.lookup x = some .local ∨ sc.names.lookup x = some .cell
  nofree : ∀ y ∈ sc.names, y.2 ≠ .free
theorem bindL_out {kindOf : Str → Option NameKind} {x : Str} : ∀ {binds : List (Str × Value)} {m : Str → Option Value}, (∀ v, (x, v) ∉ binds) → bindL kindOf binds m x = m x
  | [], _, _ => rfl
  | (n, v) :: r, m, h => by
    unfold bindL
    rw [bindL_out fun w hw => h w (List.mem_cons_of_mem _ hw)]
    split
    · have : x ≠ n := by rintro rfl; exact h v List.mem_cons_self
      simp [this]
    · rfl
theorem bindC_out {kindOf : Str → Option NameKind} {x : Str} : ∀ {binds : List (Str × Value)} {m : Str → Option Value}, (∀ v, (x, v) ∉ binds) → bindC kindOf binds m x = m x
  | [], _, _ => rfl
  | (n, v) :: r, m, h => by
    unfold bindC
    rw [bindC_out fun w hw => h w (List.mem_cons_of_mem _ hw)]
    split
    · rfl
    · have : x ≠ n := by rintro rfl; exact h v List.mem_cons_self
      simp [this]
theorem bindL_get {kindOf : Str → Option NameKind} {x : Str} {v : Value} : ∀ {P : List Str} {vs : List Value} {i : Nat} {m : Str → Option Value}, P.Nodup → P[i]? = some x → vs[i]? = some v → kindOf x = some .local →
    bindL kindOf (P.zip vs) m x = some v
  | [], _, _, _, _, h, _, _ => by simp at h
  | _ :: _, [], _, _, _, _, h, _ => by simp at h
  | p :: P, w :: vs, 0, m, nd, h1, h2, hk => by
    simp at h1 h2; subst h1; subst h2
    show bindL kindOf ((p, w) :: P.zip vs) m p = _
    unfold bindL
    rw [bindL_out fun v hv => (List.nodup_cons.mp nd).1 (List.of_mem_zip hv).1, if_pos hk]
    simp
  | p :: P, w :: vs, i + 1, m, nd, h1, h2, hk => by
    show bindL kindOf ((p, w) :: P.zip vs) m x = _
    unfold bindL
    exact bindL_get (i := i) (List.nodup_cons.mp nd).2 (by simpa using h1) (by simpa using h2) hk
theorem bindC_get {kindOf : Str → Option NameKind} {x : Str} {v : Value} : ∀ {P : List Str} {vs : List Value} {i : Nat} {m : Str → Option Value}, P.Nodup → P[i]? = some x → vs[i]? = some v → kindOf x ≠ some .local →
    bindC kindOf (P.zip vs) m x = some v
  | [], _, _, _, _, h, _, _ => by simp at h
  | _ :: _, [], _, _, _, _, h, _ => by simp at h
  | p :: P, w :: vs, 0, m, nd, h1, h2, hk => by
    simp at h1 h2; subst h1; subst h2
    show bindC kindOf ((p, w) :: P.zip vs) m p = _
    unfold bindC
    rw [bindC_out fun v hv => (List.nodup_cons.mp nd).1 (List.of_mem_zip hv).1, if_neg hk]
    simp
  | p :: P, w :: vs, i + 1, m, nd, h1, h2, hk => by
    show bindC kindOf ((p, w) :: P.zip vs) m x = _
    unfold bindC
    exact bindC_get (i := i) (List.nodup_cons.mp nd).2 (by simpa using h1) (by simpa using h2) hk
def start (N : List Str) (vs : List V) : St := vs.map some ++ List.replicate (N.length - vs.length) none
def cxOf (CX : CXT) (P : Program) (w : World) (K : PySem.W.Frag) (mg : Str → Option Value) (base : Heap) (N : List Str) (qual : Str) (scope : Scope) (f : Addr) (cd : Value) (A : Around) (outer : List Env) (s : Shared) (H : Hp) (E : XK) : Cx where
  prog := P
  w := w
  K := K
  mg := mg
  base := base
  A := A.deeper (envOfC qual scope s.heap.objs.size f cd)
  N := N
  s_0 := s
  H_0 := H
  env := envOfC qual scope s.heap.objs.size f cd
  outer := outer
  stack := envOfC qual scope s.heap.objs.size f cd :: outer
  ex := []
  calm := true
  fn := fun _ => true
  pn := []
  xe := fun e s' => wpAny (model P w) (A.deeper (envOfC qual scope s.heap.objs.size f cd)) (leaving (envOfC qual scope s.heap.objs.size f cd) e) (fun _ s'' => CX outer H s E e s'') (fun e' s'' => CX outer H s E e' s'') s'
theorem cell_has {sc : Scope} {n : Nat} {x : Str} (h : sc.names.lookup x = some .cell) : ∃ c, (cellsFrom n sc.names []).lookup x = some c := by
  have q := PySem.W.cellsFrom_some sc.names n [] (.inl h)
  exact Option.isSome_iff_exists.mp q
theorem inv_start {CX : CXT} {P : Program} {w : World} {K : PySem.W.Frag} {mg : Str → Option Value} {base : Heap} {N ps : List Str} {qual : Str} {scope : Scope} {f : Addr} {cd : Value} {A : Around} {outer : List Env} {s s1 : Shared} {H : Hp} {E : XK} {us : List Value} {vs : List V}
    (S : FnScope N ps scope) (hd : A.handled = none) (e0 : Env0 P w K mg base A outer s H) (hl : vs.length = ps.length) (r : Vals vs us)
    (x : InCallC s s.heap.objs.size (bindL (envOfC qual scope s.heap.objs.size f cd).kindOf (ps.zip us) fun _ => none) (cellsFrom (s.heap.objs.size + 1) scope.names []) (bindC (envOfC qual scope s.heap.objs.size f cd).kindOf (ps.zip us) fun _ => none) s1) :
    Inv (cxOf CX P w K mg base N qual scope f cd A outer s H E) [] (start N vs) H s1 := by
  have hpl : ps.length ≤ N.length := by have := congrArg List.length S.pre; rw [List.length_take] at this; omega
  obtain ⟨h1, tk, rfl, hk⟩ := x.done
  have noA : ∀ b : Addr, b ∉ (cxOf CX P w K mg base N qual scope f cd A outer s H E).ex := fun b z => absurd (show b ∈ ([] : List Addr) from z) (by simp)
  refine ⟨⟨e0.mod, S.kind, rfl, rfl, Nat.le_refl _, fun y z c h1 h2 => ?_, fun y hy => ?_, fun y c _ h => ?_, fun _ => hd, Around.frames_deeper e0.frames, .inr ⟨rfl, rfl⟩, fun b z => absurd z (noA b), e0.bs, e0.bsz, fun b _ _ => noA b, fun b z => absurd z (noA b), e0.funs, e0.frf⟩,
    rfl, e0.bare, Un.kept hk, ⟨_, x.toInCall.ns, fun i y v h1 h2 h3 => ?_⟩, fun y c h => ⟨_, x.cell y c h⟩, e0.hok.fresh (Nat.le_refl _), fun y c h => ?_, fun p hp => absurd (show p ∈ ([] : List (Addr × Obj)) from hp) (by simp), e0.hok.kept hk, ?_⟩
  · exact name_of_addr x.apart (PySem.mem_of_lookup h1) (PySem.mem_of_lookup h2)
  · have hy : scope.names.lookup y = some .cell ∨ scope.names.lookup y = some .free := hy
    rcases hy with hy | hy
    · exact cell_has hy
    · exact absurd rfl (S.nofree _ (PySem.mem_of_lookup hy))
  · exact Nat.le_of_lt (x.above y c (PySem.mem_of_lookup h))
  · have hi : i < vs.length := by
      unfold start at h2
      by_cases hi : i < vs.length
      · exact hi
      · rw [List.getElem?_append_right (by simpa using hi)] at h2
        rw [List.getElem?_replicate] at h2
        split at h2 <;> cases h2
    have ha : vs[i]? = some v := by
      unfold start at h2
      rw [List.getElem?_append_left (by simpa using hi), List.getElem?_map] at h2
      cases e : vs[i]? with
      | none => rw [e] at h2; cases h2
      | some a => rw [e] at h2; cases h2; rfl
    obtain ⟨u, hu, rv⟩ := r.get ha
    have hp : ps[i]? = some y := by
      rw [← S.pre, List.getElem?_take_of_lt (by omega)]; exact h1
    have ndP : ps.Nodup := by rw [← S.pre]; exact S.nd.sublist (List.take_sublist _ _)
    refine ⟨u, rv, ?_⟩
    rcases S.par y (List.mem_of_getElem? hp) with k | k
    · exact .inl ⟨k, bindL_get ndP hp hu k⟩
    · obtain ⟨c, e⟩ := cell_has (n := s.heap.objs.size + 1) k
      refine .inr ⟨.inl k, c, e, ?_⟩
      have q := x.cell y c e
      rw [bindC_get ndP hp hu (by show scope.names.lookup y ≠ _; rw [k]; decide)] at q
      exact q
  · exact e0.hok.fresh (Nat.le_of_lt (x.above y c (PySem.mem_of_lookup h)))
  · unfold start
    show _ = N.length
    rw [List.length_append, List.length_map, List.length_replicate]
    omega
theorem fn_of {CX : CXT} {P : Program} {w : World} {K : PySem.W.Frag} {mg : Str → Option Value} {base : Heap} {k : Nat} {f : Addr} {name qual : Str} {params : Arguments} {body : List Stmt} {scope : Scope} {dV kV doc pm cdv ct oc : Value} {an od : Option Addr}
    {osl : Array (Option Value)} {N ps : List Str} {sp : Sp} (lk : K.lookup f = some ⟨oc, od, .func (PySem.W.fnOf name qual params body scope dV kV doc pm an cdv ct), osl⟩) (hcd : PySem.W.codeIn K cdv qual = true) (S : FnScope N ps scope)
    (len : ∀ vs H Q E, sp vs H Q E → vs.length = ps.length)
    (hbody : ∀ (A : Around) (outer : List Env) (s : Shared) (H : Hp) (vs : List V) (Q : VK) (E : XK), Room k (A.deeper (envOfC qual scope s.heap.objs.size f cdv)) → sp vs H Q E →
      ∃ t, PSs (cxOf CX P w K mg base N qual scope f cdv A outer s H E) body t ∧ t { nx := fun _ H' => Q .non H', rt := Q } (start N vs) H) :
    FnOk P w K mg base CX (k + 1) f (PySem.W.fnOf name qual params body scope dV kV doc pm an cdv ct) ps sp := by
  refine ⟨len, fun A outer s H args us vs Q E hr e0 hb r hsp => ?_⟩
  have hl := len _ _ _ _ hsp
  have KX : K.In s.heap := e0.mod.kin.keeps fun b o e => (e0.bs b o e).1
  have lim : s.heap.NoLimit := e0.mod.nolimit.keeps fun b o e => (e0.bs b o e).1
  have hkind : ∀ y ∈ ps.zip us, scope.names.lookup y.1 = some .local ∨ (scope.names.lookup y.1 = some .cell ∧ ((cellsFrom (s.heap.objs.size + 1) scope.names []).lookup y.1).isSome = true) := fun ⟨n, v⟩ hy => by
    rcases S.par n (List.of_mem_zip hy).1 with q | q
    · exact .inl q
    · exact .inr ⟨q, PySem.W.cellsFrom_some _ _ _ (.inl q)⟩
  refine codeAny_call_function hr.depth (KX _ _ lk) rfl S.co S.gen rfl (PySem.W.codeRec_of KX hcd) (hb _ _ _ _ ?_)
  refine wpAny_newFunctionEnv_cells S.kind hkind fun env he s1 x => ?_
  subst he
  refine ⟨lim.keeps x.toInCall.keep, codeAny_func ?_⟩
  obtain ⟨t, ht, hq⟩ := hbody A outer s H vs Q E (hr.deeper _) hsp
  have I : Inv (cxOf CX P w K mg base N qual scope f cdv A outer s H E) [] (start N vs) H s1 := inv_start S hr.hd e0 hl r x
  refine wpAny_mono (ht [] s1 (start N vs) H _ I hq) (fun fl s' hs => ?_) fun e s' hs => hs
  have fin : ∀ {σ' : St} {H' : Hp} {v : V} {u : Value}, Inv (cxOf CX P w K mg base N qual scope f cdv A outer s H E) [] σ' H' s' → RelV v u → Q v H' → CE outer P w H s Q u s' :=
    fun {σ' H' v u} J rv q => ⟨v, H', J.os, J.bare, J.base, J.hok, rv, q⟩
  cases fl with
  | ret u =>
    obtain ⟨v, σ', H', J, rv, q⟩ := hs
    exact fin J rv q
  | next =>
    obtain ⟨σ', H', J, q⟩ := hs
    exact fin (v := V.non) (u := Value.none) J rfl q
  | brk =>
    obtain ⟨_, _, _, q⟩ := hs
    exact False.elim q
  | cont =>
    obtain ⟨_, _, _, q⟩ := hs
    exact False.elim q
end L2
namespace L2
open PySem PySem.Spec PyProof.Rows
section
variable {X : Cx} {x : Str} {p pos : Pos} {e : Expr} {es : List Expr} {t : TA} {id T : String} {r : List V → Hp → VK → Prop}
def tCB (r : List V → Hp → VK → Prop) (t : TA) : TE := fun σ H Q => t σ H fun vs H1 => r vs H1 Q
theorem pe_callB (hc : CallR X (.builtin id) r) (hg : Gl X x) (hm : X.mg x = none) (hv : bootBuiltins x = some (.builtin id)) (ha : PA X (e :: es) t) (hn : x ≠ "__name__" := by decide) (hdb : (x == ("__debug__" : Str)) = false := by decide)
    (he : starEach (e :: es) X.env = (false, eval e X.env) :: starEach es X.env := by rfl) (hpl : (backTo pos (starEach es X.env)).any (·.1) = false := by rfl) : PE X (.Call (.Name x p) (e :: es) [] pos) (tCB r t) := by
  intro pins s σ H Q I h
  refine wpAny_Call_Name_kw (ld_blt I hg hm hv ?_ hn hdb)
  exact PyProof.Rows.callWith_builtin1 (thn (ha pos pins s σ H _ I h) fun us s1 ⟨vs, H1, I1, r1, q1⟩ => hc pins s1 σ H1 vs us Q I1 r1 q1) he hpl
theorem pe_callTy (hc : CallR X (.type T) r) (hg : Gl X x) (hm : X.mg x = none) (hv : bootBuiltins x = some (.type T)) (ha : PA X (e :: es) t) (hn : x ≠ "__name__" := by decide) (hdb : (x == ("__debug__" : Str)) = false := by decide)
    (he : starEach (e :: es) X.env = (false, eval e X.env) :: starEach es X.env := by rfl) (hpl : (backTo pos (starEach es X.env)).any (·.1) = false := by rfl) : PE X (.Call (.Name x p) (e :: es) [] pos) (tCB r t) := by
  intro pins s σ H Q I h
  refine wpAny_Call_Name_kw (ld_blt I hg hm hv ?_ hn hdb)
  exact PyProof.Rows.callWith_type1 (thn (ha pos pins s σ H _ I h) fun us s1 ⟨vs, H1, I1, r1, q1⟩ => hc pins s1 σ H1 vs us Q I1 r1 q1) he hpl
end
end L2
namespace HT
open PySem PyProof.Rows
section
open PySem.SeqAt
open PySem.AutoSeq1 (wpAny_loadPart')
open PySem.MeetsSeq PySem.MeetsSeq2 PySem.MeetsSeq3
end
section
variable {prog : Program} {w : World} {A : Around} {E : Value → Shared → Prop} {s : Shared}
def sIx (n d : Nat) : Option Int → Nat
  | none => d
  | some v => if v < 0 then (v + (n : Int)).toNat else min v.toNat n
theorem sIx_none (n d : Nat) : sIx n d none = d := rfl
theorem sIx_nat (n d k : Nat) : sIx n d (some (k : Int)) = min k n := by
  show (if (k : Int) < 0 then ((k : Int) + (n : Int)).toNat else min (k : Int).toNat n) = min k n
  rw [if_neg (by omega), Int.toNat_natCast]
end
end HT
namespace L2
open PySem PySem.Spec PyProof.Rows
abbrev TO := St → Hp → (Option Int → Hp → Prop) → Prop
def PO (X : Cx) (e : Option Expr) (t : TO) : Prop :=
  ∀ (pins : List (Addr × Obj)) (s : Shared) (σ : St) (H : Hp) (Q : Option Int → Hp → Prop), Inv X pins σ H s → t σ H Q →
    wpAny (model X.prog X.w) X.A (evalPart e X.env) (fun u s' => ∃ o H', Inv X pins σ H' s' ∧ IsPart u o ∧ Q o H') X.xe s
def tNoPart : TO := fun _ H Q => Q none H
def tPart (t : TE) : TO := fun σ H Q => t σ H fun x H1 => ∃ i, x = .int i ∧ Q (some i) H1
section
variable {X : Cx} {e : Expr} {te : TE} {lo hi : Option Expr} {tl th : TO} {pos p2 : Pos}
theorem po_none : PO X none tNoPart := by
  intro pins s σ H Q I h
  rw [evalPart_none]
  exact wpAny_pure ⟨none, H, I, .none, h⟩
theorem po_some (h : PE X e te) : PO X (some e) (tPart te) := by
  intro pins s σ H Q I hw
  rw [evalPart_some]
  refine thn (h pins s σ H _ I hw) fun u s1 ⟨x, H1, I1, r1, q1⟩ => ?_
  obtain ⟨i, rfl, q⟩ := q1
  obtain ⟨t, rfl⟩ := r1
  exact ⟨some i, H1, I1, .int i t, q⟩
def SlR (X : Cx) (r : V → Option Int → Option Int → Hp → VK → Prop) : Prop :=
  ∀ (pins : List (Addr × Obj)) (s : Shared) (σ : St) (H : Hp) (x : V) (v vl vu : Value) (lo hi : Option Int) (sl : Addr) (Q : VK), Inv X pins σ H s → RelV x v → s.heap.IsSliceOf sl vl vu .none → IsPart vl lo → IsPart vu hi → r x lo hi H Q →
    ∃ T id, typeLookup (.type T) "__getitem__" = pure (some (.builtin id)) ∧ s.TypeIs v T ∧ wpAny (model X.prog X.w) X.A (getItem v (.ref sl)) (EP X pins σ Q) X.xe s
def tSl (r : V → Option Int → Option Int → Hp → VK → Prop) (te : TE) (tl th : TO) : TE := fun σ H Q => te σ H fun x H1 => tl σ H1 fun l H2 => th σ H2 fun u H3 => r x l u H3 Q
theorem pe_slice {r : V → Option Int → Option Int → Hp → VK → Prop} (hr : SlR X r) (he : PE X e te) (hl : PO X lo tl) (hu : PO X hi th) : PE X (.Subscript e (.Slice lo hi none p2) pos) (tSl r te tl th) := by
  intro pins s σ H Q I h
  refine Subscript_ (thn (he pins s σ H _ I h) fun v s1 ⟨x, H1, I1, r1, q1⟩ => ?_)
  refine wpAny_Slice (thn (hl pins s1 σ H1 _ I1 q1) fun vl s2 ⟨l, H2, I2, pl, q2⟩ => thn (hu pins s2 σ H2 _ I2 q2) fun vu s3 ⟨u, H3, I3, pu, q3⟩ => ?_)
  rw [evalPart_none]
  refine wpAny_pure ?_
  have I4 : Inv X pins σ H3 { s3 with heap := s3.heap.push { cls := .type "slice", data := .fields #[vl, vu, .none] } } := I3.kept (t' := s3.toks) fun b ob q => Heap.get?_push_of_some _ q
  obtain ⟨T, id, hT, ht, hg⟩ := hr pins { s3 with heap := s3.heap.push { cls := .type "slice", data := .fields #[vl, vu, .none] } } σ H3 x v vl vu l u s3.heap.objs.size Q I4 r1 (Heap.IsSliceOf.new ..) pl pu q3
  show wpAny (model X.prog X.w) X.A (subscriptTail e (.Slice lo hi none p2) v (.ref s3.heap.objs.size)) (EP X pins σ Q) X.xe { s3 with heap := s3.heap.push { cls := .type "slice", data := .fields #[vl, vu, .none] } }
  exact tail_any (ops := [.ref s3.heap.objs.size, v]) ht hT hg (by with_unfolding_all rfl)
def cutV (xs : List V) (lo hi : Option Int) : List V := (xs.drop (HT.sIx xs.length 0 lo)).take (HT.sIx xs.length xs.length hi - HT.sIx xs.length 0 lo)
theorem cutV_length (xs : List V) (lo hi : Option Int) : (cutV xs lo hi).length ≤ xs.length := by
  unfold cutV
  rw [List.length_take, List.length_drop]
  omega
end
end L2
namespace L2
open PySem PySem.Spec PyProof.Rows
def ixN (n : Nat) (i : Int) : Option Nat := if 0 ≤ i then (if i < n then some i.toNat else none) else if -(n : Int) ≤ i then some (i + n).toNat else none
def atI {α : Type} (xs : List α) (i : Int) : Option α := (ixN xs.length i).bind fun j => xs[j]?
theorem ixN_seq {n : Nat} {i : Int} {j : Nat} (h : ixN n i = some j) : seqIndex? i n = some j ∧ j < n ∧ -(n : Int) ≤ i ∧ i < n := by
  unfold ixN at h
  by_cases h0 : 0 ≤ i
  · rw [if_pos h0] at h
    by_cases h1 : i < n
    · rw [if_pos h1] at h
      have e : i.toNat = j := Option.some.inj h
      exact ⟨by rw [seqIndex_of h0 h1, e], by omega, by omega, h1⟩
    · rw [if_neg h1] at h; cases h
  · rw [if_neg h0] at h
    by_cases h1 : -(n : Int) ≤ i
    · rw [if_pos h1] at h
      have e : (i + n).toNat = j := Option.some.inj h
      exact ⟨by rw [seqIndex_neg (by omega) h1, e], by omega, h1, by omega⟩
    · rw [if_neg h1] at h; cases h
theorem atI_get {α : Type} {xs : List α} {i : Int} {v : α} (h : atI xs i = some v) : ∃ j, seqIndex? i xs.length = some j ∧ xs[j]? = some v ∧ j < xs.length ∧ -(xs.length : Int) ≤ i ∧ i < xs.length := by
  unfold atI at h
  cases e : ixN xs.length i with
  | none => rw [e] at h; cases h
  | some j =>
    rw [e] at h
    obtain ⟨h1, h2, h3, h4⟩ := ixN_seq e
    exact ⟨j, h1, h, h2, h3, h4⟩
theorem atI_nat {α : Type} {xs : List α} {j : Nat} {v : α} (h : xs[j]? = some v) : atI xs (j : Int) = some v := by
  have hj : j < xs.length := (List.getElem?_eq_some_iff.mp h).1
  have e : ixN xs.length (j : Int) = some j := by
    unfold ixN
    rw [if_pos (by omega), if_pos (by omega)]; simp
  unfold atI; rw [e]; exact h
theorem atI_last {α : Type} (xs : List α) (v : α) : atI (xs ++ [v]) (-1) = some v := by
  have hl : (xs ++ [v]).length = xs.length + 1 := by simp
  have e : ixN (xs ++ [v]).length (-1) = some xs.length := by
    unfold ixN
    rw [hl, if_neg (by decide), if_pos (by omega)]
    congr 1
    omega
  unfold atI
  rw [e]
  show (xs ++ [v])[xs.length]? = some v
  simp
def PlainIx (b : Expr) : Prop := ∀ o i, subscripted b false o i = operate [o, i] (getItem o i)
def IxR (X : Cx) (r : R2) : Prop :=
  ∀ (value slice : Expr) (pins : List (Addr × Obj)) (s : Shared) (σ : St) (H : Hp) (x y : V) (v u : Value) (Q : VK), Inv X pins σ H s → RelV x v → RelV y u → r x y H Q →
    subscripted slice false v u = operate [v, u] (getItem v u) → wpAny (model X.prog X.w) X.A (subscriptTail value slice v u) (EP X pins σ Q) X.xe s
def MtR (X : Cx) (id : String) (r : V → List V → Hp → VK → Prop) : Prop :=
  ∀ (pins : List (Addr × Obj)) (s : Shared) (σ : St) (H : Hp) (x : V) (xs : List V) (v : Value) (us : List Value) (Q : VK), Inv X pins σ H s → RelV x v → Vals xs us → r x xs H Q →
    wpAny (model X.prog X.w) X.A (call (.builtin id) (v :: us)) (EP X pins σ Q) X.xe s
section
variable {X : Cx} {a b : Expr} {ta tb : TE} {pos : Pos}
theorem pe_ix {r : R2} (hr : IxR X r) (ha : PE X a ta) (hb : PE X b tb) (hs : PlainIx b) : PE X (.Subscript a b pos) (tOp r ta tb) := by
  intro pins s σ H Q I h
  exact Subscript_ (binT ha hb I h fun v u s2 x y H2 I2 rx ry q => hr a b pins s2 σ H2 x y v u Q I2 rx ry q (hs _ _))
def rIxL (K : PySem.W.Frag) : R2 := fun x y H Q => ∃ p xs i v, x = .ref p ∧ y = .int i ∧ SqL K H p xs ∧ atI xs i = some v ∧ Q v H
def rIxT (K : PySem.W.Frag) : R2 := fun x y H Q => ∃ p xs i v, x = .ref p ∧ y = .int i ∧ SqT K H p xs ∧ atI xs i = some v ∧ Q v H
theorem ix_list : IxR X (rIxL X.K) := by
  intro value slice pins s σ H x y v u Q I rx ry h hs
  obtain ⟨p, xs, i, z, rfl, rfl, hq, he, q⟩ := h
  cases rx
  obtain ⟨t, rfl⟩ := ry
  obtain ⟨its, r, pl, hz⟩ := I.list hq
  obtain ⟨j, h1, h2, h3, h4, h5⟩ := atI_get he
  obtain ⟨w, ew, rw'⟩ := r.get h2
  have hl := r.length
  have hn := line63
  have fin : EP X pins σ Q w s := ⟨z, H, I, rw', q⟩
  by_cases h0 : 0 ≤ i
  · have hj : i.toNat = j := by
      rw [seqIndex_of h0 h5] at h1
      exact Option.some.inj h1
    exact item_listR pl.isList h0 (by omega) (by rw [hj]; simpa using ew) fin hs
  · have hj : (i + (its.toArray.size : Int)).toNat = j := by
      rw [seqIndex_neg (by omega) h4] at h1
      rw [List.size_toArray, ← hl]
      exact Option.some.inj h1
    exact subscriptTail_builtinR (x := w) pl.isList.typeIs slot_list_getitem.lookup
      (wpAny_getItem_list_neg (Q := fun r s' => r = w ∧ EP X pins σ Q r s') pl.isList (by omega) (by rw [List.size_toArray] <;> omega) (by omega) (by rw [hj]; simpa using ew) ⟨rfl, fin⟩) hs
theorem ix_tup : IxR X (rIxT X.K) := by
  intro value slice pins s σ H x y v u Q I rx ry h hs
  obtain ⟨p, xs, i, z, rfl, rfl, hq, he, q⟩ := h
  cases rx
  obtain ⟨t, rfl⟩ := ry
  obtain ⟨its, r, pl, hz⟩ := I.tuple hq
  obtain ⟨j, h1, h2, h3, h4, h5⟩ := atI_get he
  obtain ⟨w, ew, rw'⟩ := r.get h2
  have hl := r.length
  have hn := line63
  have fin : EP X pins σ Q w s := ⟨z, H, I, rw', q⟩
  exact subscriptTail_builtinR (x := w) pl.typeIs slot_tuple_getitem.lookup
    (getItem_tuple (j := j) (Q := fun r s' => r = w ∧ EP X pins σ Q r s') pl (by omega) (by omega) (by rw [List.size_toArray, ← hl]; exact h1) (by simpa using ew) ⟨rfl, fin⟩) hs
theorem mapSeq_set (its : List Value) (n j : Nat) (u : Value) : Obj.mapSeq (·.setIfInBounds j u) { cls := .type "list", data := .seq its.toArray n } = { cls := .type "list", data := .seq (its.set j u).toArray n } := by
  simp [Obj.mapSeq]
theorem Inv.lst {pins : List (Addr × Obj)} {σ : St} {H : Hp} {s : Shared} {p : Addr} {xs : List V} (I : Inv X pins σ H s) (h : H p = some (.lst xs)) :
    ∃ (its : List Value) (n : Nat), Vals xs its ∧ s.heap.get? p = some { cls := .type "list", data := .seq its.toArray n } ∧ xs.length ≤ sizeLine := by
  obtain ⟨z, its, n, r, e⟩ := I.hok p _ h
  exact ⟨its, n, r, e, z⟩
theorem Inv.lstUpd {pins : List (Addr × Obj)} {σ : St} {H : Hp} {s : Shared} {p : Addr} {xs ys : List V} {its its' : List Value} {n n' : Nat} {f : Obj → Obj} (I : Inv X pins σ H s) (h : H p = some (.lst xs))
    (ho : s.heap.get? p = some { cls := .type "list", data := .seq its.toArray n }) (hf : f { cls := .type "list", data := .seq its.toArray n } = { cls := .type "list", data := .seq its'.toArray n' }) (r : Vals ys its') (hz : ys.length ≤ sizeLine) (t : Nat) :
    Inv X pins σ (upd H p (.lst ys)) { s with heap := s.heap.update p f, toks := t } := by
  have e : (s.heap.update p f).get? p = some { cls := .type "list", data := .seq its'.toArray n' } := by
    rw [Heap.get?_update_self f ho (by rw [hf] <;> rfl), hf]
  refine I.write (x := p) (e := p) (by rw [h]; trivial) (.inl rfl) (fun b u hb q => (Heap.get?_update_other _ _ (Ne.symm hb)).trans q) ⟨_, e⟩ ?_
  exact ⟨hz, its', n', r, e⟩
def rSetL : V → V → V → Hp → (Hp → Prop) → Prop := fun o i v H Q => ∃ p xs k j, o = .ref p ∧ i = .int k ∧ H p = some (.lst xs) ∧ ixN xs.length k = some j ∧ Q (upd H p (.lst (xs.set j v)))
theorem set_list : PSet X rSetL := by
  intro pins s σ H o i v ov iv u Q I ro ri rv h
  obtain ⟨p, xs, k, j, rfl, rfl, hp, hj, q⟩ := h
  cases ro
  obtain ⟨t, rfl⟩ := ri
  obtain ⟨its, n, r, ho, hz⟩ := I.lst hp
  obtain ⟨h1, h2, h3, h4⟩ := ixN_seq hj
  have hl := r.length
  have hn := line63
  have I' : Inv X pins σ (upd H p (.lst (xs.set j v))) { s with heap := s.heap.update p (Obj.mapSeq (·.setIfInBounds j u)) } :=
    I.lstUpd hp ho (mapSeq_set its n j u) (r.set rv j) (by rw [List.length_set]; exact hz) s.toks
  by_cases h0 : 0 ≤ k
  · have hk : k.toNat = j := by
      rw [seqIndex_of h0 h4] at h1
      exact Option.some.inj h1
    exact PySem.W.ki_setAt ho h0 (by omega) (by rw [List.size_toArray, ← hl]; exact h4) (by rw [hk]; exact ⟨_, I', q⟩)
  · have hk : (k + (its.toArray.size : Int)).toNat = j := by
      rw [seqIndex_neg (by omega) h3] at h1
      rw [List.size_toArray, ← hl]
      exact Option.some.inj h1
    exact PySem.W.ki_setBack ho (by omega) (by rw [List.size_toArray, ← hl]; exact h3) (by omega) (by rw [hk]; exact ⟨_, I', q⟩)
theorem slice_bounds (lo hi : Option Int) (n : Nat) : (sliceBounds lo hi none n).1 = ((HT.sIx n 0 lo : Nat) : Int) ∧ (sliceBounds lo hi none n).2.1 = ((HT.sIx n n hi : Nat) : Int) ∧ (sliceBounds lo hi none n).2.2 = 1 := by
  refine ⟨?_, ?_, rfl⟩
  · cases lo with
    | none => simp [sliceBounds, HT.sIx]
    | some i =>
      simp only [sliceBounds, HT.sIx, Option.getD_none, show (1 : Int) > 0 by decide, if_true]
      by_cases h : i < 0
      · simp only [h, if_true] <;> omega
      · simp only [h, if_false] <;> omega
  · cases hi with
    | none => simp [sliceBounds, HT.sIx]
    | some i =>
      simp only [sliceBounds, HT.sIx, Option.getD_none, show (1 : Int) > 0 by decide, if_true]
      by_cases h : i < 0
      · simp only [h, if_true] <;> omega
      · simp only [h, if_false] <;> omega
theorem slicePick_cut (its : List Value) (lo hi : Option Int) : slicePick its.toArray lo hi none = ((its.drop (HT.sIx its.length 0 lo)).take (HT.sIx its.length its.length hi - HT.sIx its.length 0 lo)).toArray := by
  obtain ⟨h1, h2, h3⟩ := slice_bounds lo hi its.toArray.size
  unfold slicePick
  rw [h1, h2, h3]
  simp only [sliceRange_one, pick_run, List.size_toArray] <;> rfl
def rSlL (K : PySem.W.Frag) : V → Option Int → Option Int → Hp → VK → Prop := fun x lo hi H Q => ∃ a xs, x = .ref a ∧ SqL K H a xs ∧ ∀ p, H p = none → Q (.ref p) (upd H p (.lst (cutV xs lo hi)))
theorem sl_list : SlR X (rSlL X.K) := by
  intro pins s σ H x v vl vu lo hi sl Q I rx hs pl pu h
  obtain ⟨a, xs, rfl, hx, q⟩ := h
  cases rx
  obtain ⟨its, r, ht, hz⟩ := I.list hx
  have hlen := r.length
  refine ⟨"list", _, slot_list_getitem.lookup, ht.isList.typeIs, ?_⟩
  refine wpAny_getItem_list_slice ht.isList hs pl pu .none (by simp) ?_ (by rw [List.size_toArray] <;> omega)
  rw [slicePick_cut, ← hlen]
  refine ⟨.ref s.heap.objs.size, _, I.laid (t' := s.toks) (o := .lst (cutV xs lo hi)) (fun b ob q => Heap.get?_push_of_some _ q) (Nat.le_refl _) ?_, rfl, q _ (I.hok.fresh (Nat.le_refl _))⟩
  exact ⟨Nat.le_trans (cutV_length xs lo hi) hz, _, 0, (r.drop (HT.sIx xs.length 0 lo)).take (HT.sIx xs.length xs.length hi - HT.sIx xs.length 0 lo), Heap.get?_push_size _ rfl⟩
def flatV : V → Bool
  | .non => true
  | .bl _ => true
  | .int _ => true
  | .str _ => true
  | _ => false
def eqV : V → V → Bool
  | .non, .non => true
  | .bl a, .bl b => a == b
  | .bl a, .int b => (if a then 1 else 0) == b
  | .int a, .bl b => a == (if b then 1 else 0)
  | .int a, .int b => a == b
  | .str a, .str b => a == b
  | _, _ => false
theorem eqAt_V {A : Around} {s : Shared} {y x : V} {u v : Value} (ry : RelV y u) (rx : RelV x v) (fy : flatV y = true) (fx : flatV x = true) : SeqAt.EqAt A s u v (eqV y x) := by
  cases y with
  | non =>
    cases ry
    cases x with
    | non => cases rx; exact SeqAt.EqAt.same _
    | bl b => cases rx; exact SeqAt.EqAt.none_bool b
    | int b => obtain ⟨t, rfl⟩ := rx; exact SeqAt.EqAt.none_int b t
    | str b => obtain ⟨t, rfl⟩ := rx; exact SeqAt.EqAt.none_str b t
    | _ => exact absurd (show false = true from fx) Bool.false_ne_true
  | bl a =>
    cases ry
    cases x with
    | non => cases rx; exact SeqAt.EqAt.bool_none a
    | bl b => cases rx; exact SeqAt.EqAt.bool_bool a b
    | int b => obtain ⟨t, rfl⟩ := rx; exact SeqAt.EqAt.bool_int a b t
    | str b => obtain ⟨t, rfl⟩ := rx; exact SeqAt.EqAt.bool_str a b t
    | _ => exact absurd (show false = true from fx) Bool.false_ne_true
  | int a =>
    obtain ⟨t', rfl⟩ := ry
    cases x with
    | non => cases rx; exact SeqAt.EqAt.int_none a t'
    | bl b => cases rx; exact SeqAt.EqAt.int_bool a t' b
    | int b => obtain ⟨t, rfl⟩ := rx; exact SeqAt.EqAt.int_int a t' b t
    | str b => obtain ⟨t, rfl⟩ := rx; exact SeqAt.EqAt.int_str a t' b t
    | _ => exact absurd (show false = true from fx) Bool.false_ne_true
  | str a =>
    obtain ⟨t', rfl⟩ := ry
    cases x with
    | non => cases rx; exact SeqAt.EqAt.str_none a t'
    | bl b => cases rx; exact SeqAt.EqAt.str_bool a t' b
    | int b => obtain ⟨t, rfl⟩ := rx; exact SeqAt.EqAt.str_int a t' b t
    | str b => obtain ⟨t, rfl⟩ := rx; exact SeqAt.EqAt.str_str a t' b t
    | _ => exact absurd (show false = true from fx) Bool.false_ne_true
  | _ => exact absurd (show false = true from fy) Bool.false_ne_true
def eqU (x : V) (u : Value) : Bool := match u with
  | .none => eqV .non x
  | .bool b => eqV (.bl b) x
  | .int i _ => eqV (.int i) x
  | .str z _ => eqV (.str z) x
  | _ => false
theorem eqU_of {x y : V} {u : Value} (r : RelV y u) (f : flatV y = true) : eqU x u = eqV y x := by
  cases y with
  | non => cases r; rfl
  | bl b => cases r; rfl
  | int i => obtain ⟨t, rfl⟩ := r; rfl
  | str z => obtain ⟨t, rfl⟩ := r; rfl
  | _ => exact absurd (show false = true from f) Bool.false_ne_true
theorem any_eqU {x : V} : ∀ {xs : List V} {us : List Value}, Vals xs us → xs.all flatV = true → us.any (eqU x) = xs.any fun y => eqV y x
  | _, _, .nil, _ => rfl
  | y :: xs, u :: us, .cons r t, f => by
    rw [List.all_cons, Bool.and_eq_true] at f
    rw [List.any_cons, List.any_cons, eqU_of r f.1, any_eqU t f.2]
theorem mem_eqAt {A : Around} {s : Shared} {x : V} {v : Value} (rx : RelV x v) (fx : flatV x = true) : ∀ {xs : List V} {us : List Value}, Vals xs us → xs.all flatV = true → ∀ u ∈ us, SeqAt.EqAt A s u v (eqU x u)
  | _, _, .nil, _ => fun u hu => by cases hu
  | y :: xs, u :: us, .cons r t, f => fun u' hu => by
    rw [List.all_cons, Bool.and_eq_true] at f
    rcases List.mem_cons.mp hu with rfl | hu
    · rw [eqU_of r f.1]; exact eqAt_V r rx f.1 fx
    · exact mem_eqAt rx fx t f.2 u' hu
def inV (x : V) (xs : List V) : Bool := xs.any fun y => eqV y x
def rIn (K : PySem.W.Frag) (neg : Bool) : R2 := fun x y H Q => ∃ p xs, y = .ref p ∧ (SqL K H p xs ∨ SqT K H p xs) ∧ flatV x = true ∧ xs.all flatV = true ∧ Q (.bl (if neg then !inV x xs else inV x xs)) H
theorem op_in_seq : OpR X (compareOp .In) (rIn X.K false) := by
  intro pins s σ H x y v u Q I rx ry h
  obtain ⟨p, xs, rfl, hq, fx, fs, q⟩ := h
  cases ry
  rcases hq with hq | hq
  · obtain ⟨its, r, pl, hz⟩ := I.list hq
    refine SeqAt.in_listAt (eqU x) pl.isList (fun w hw => mem_eqAt rx fx r fs w (by simpa using hw)) ⟨.bl _, H, I, rfl, ?_⟩
    rw [show its.toArray.any (eqU x) = its.any (eqU x) by simp, any_eqU r fs]
    exact q
  · obtain ⟨its, r, pl, hz⟩ := I.tuple hq
    refine SeqAt.in_tupleAt (eqU x) pl (fun w hw => mem_eqAt rx fx r fs w (by simpa using hw)) ⟨.bl _, H, I, rfl, ?_⟩
    rw [show its.toArray.any (eqU x) = its.any (eqU x) by simp, any_eqU r fs]
    exact q
theorem call_len_seq : CallR X (.builtin "len") (fun xs H Q => ∃ p ys, xs = [.ref p] ∧ (SqL X.K H p ys ∨ SqT X.K H p ys) ∧ Q (.int ys.length) H) := by
  intro pins s σ H xs us Q I r h
  obtain ⟨p, ys, rfl, hq, q⟩ := h
  obtain ⟨u, rfl, rx⟩ := vals1 r
  cases rx
  have hn := line63
  rcases hq with hq | hq
  · obtain ⟨its, r', pl, hz⟩ := I.list hq
    have hlen := r'.length
    exact Calls.call_len_list pl.isList (by simp only [List.size_toArray] <;> omega) ⟨.int ys.length, H, I.tok _, ⟨s.toks + 1, by rw [List.size_toArray, hlen]⟩, q⟩
  · obtain ⟨its, r', pl, hz⟩ := I.tuple hq
    have hlen := r'.length
    exact len_tuple pl (by simp only [List.size_toArray] <;> omega) ⟨.int ys.length, H, I.tok _, ⟨s.toks + 1, by rw [List.size_toArray, hlen]⟩, q⟩
theorem call_list_of : CallR X (.type "list") (fun xs H Q => ∃ p ys, xs = [.ref p] ∧ (SqL X.K H p ys ∨ SqT X.K H p ys) ∧ ∀ l, H l = none → Q (.ref l) (upd H l (.lst ys))) := by
  intro pins s σ H xs us Q I r h
  obtain ⟨p, ys, rfl, hq, q⟩ := h
  obtain ⟨u, rfl, rx⟩ := vals1 r
  cases rx
  have fin : ∀ (its : List Value), Vals ys its → ys.length ≤ sizeLine → ∀ (h' : Heap) (c' : Nat), (∀ b o', s.heap.get? b = some o' → h'.get? b = some o') →
      h'.get? s.heap.objs.size = some { cls := .type "list", dict := none, data := .seq its.toArray c', slots := #[] } → EP X pins σ Q (.ref s.heap.objs.size) { s with heap := h' } := fun its r' hz h' c' kp e =>
    ⟨.ref s.heap.objs.size, _, I.laid (t' := s.toks) kp (Nat.le_refl _) (show ObjOk X.prog X.w _ h' _ (.lst ys) from ⟨hz, its, c', r', e⟩), rfl, q _ (I.hok.fresh (Nat.le_refl _))⟩
  rcases hq with hq | hq
  · obtain ⟨its, r', pl, hz⟩ := I.list hq
    have hlen := r'.length
    obtain ⟨o, ho, hc, n, hd⟩ := pl.isList
    exact call_list_seq p (.inl rfl) ho hc hd (fun h' c' kp e => fin its r' hz h' c' kp e) (by simp only [List.size_toArray] <;> omega)
  · obtain ⟨its, r', pl, hz⟩ := I.tuple hq
    have hlen := r'.length
    obtain ⟨o, ho, hc, n, hd⟩ := pl
    exact call_list_seq p (.inr rfl) ho hc hd (fun h' c' kp e => fin its r' hz h' c' kp e) (by simp only [List.size_toArray] <;> omega)
theorem call_tuple_of : CallR X (.type "tuple") (fun xs H Q => ∃ p ys, xs = [.ref p] ∧ ((SqL X.K H p ys ∧ ∀ l, H l = none → Q (.ref l) (upd H l (.tup ys))) ∨ (SqT X.K H p ys ∧ Q (.ref p) H))) := by
  intro pins s σ H xs us Q I r h
  obtain ⟨p, ys, rfl, h⟩ := h
  obtain ⟨u, rfl, rx⟩ := vals1 r
  cases rx
  rcases h with ⟨hq, q⟩ | ⟨hq, q⟩
  · obtain ⟨its, r', pl, hz⟩ := I.list hq
    have hlen := r'.length
    refine call_tuple_list pl.isList (fun h' kp => ?_) (by simp only [List.size_toArray] <;> omega)
    have I1 : Inv X pins σ H { s with heap := h' } := I.kept (t' := s.toks) kp
    have I2 : Inv X pins σ (upd H h'.objs.size (.tup ys)) { s with heap := h'.push { cls := .type "tuple", data := .seq its.toArray } } :=
      I1.laid (t' := s.toks) (fun b o e => Heap.get?_push_of_some _ e) (Nat.le_refl _) (show ObjOk X.prog X.w _ _ _ (.tup ys) from ⟨hz, its, r', IsTup.new _ _⟩)
    exact ⟨.ref h'.objs.size, _, I2, rfl, q _ (I1.hok.fresh (Nat.le_refl _))⟩
  · obtain ⟨its, r', pl, hz⟩ := I.tuple hq
    exact call_tuple_same pl ⟨.ref p, H, I, rfl, q⟩
def tyV (K : PySem.W.Frag) (T : String) (x : V) (H : Hp) : Prop := match x with
  | .str _ => T = "str"
  | .int _ => T = "int"
  | .ref p => (T = "list" ∧ ∃ xs, SqL K H p xs) ∨ (T = "tuple" ∧ ∃ o, K.lookup p = some o ∧ o.cls = .type "tuple" ∧ o.dict = none) ∨
      (T = "dict" ∧ ((∃ kvs, H p = some (.dK kvs)) ∨ ∃ kvs, H p = some (.dT kvs))) ∨ (T = "set" ∧ ∃ S n, H p = some (.set S n))
  | _ => False
theorem tyV_is {pins : List (Addr × Obj)} {σ : St} {H : Hp} {s : Shared} {T : String} {x : V} {v : Value} (I : Inv X pins σ H s) (r : RelV x v) (ty : tyV X.K T x H) :
    s.TypeIs v T ∧ ∀ a, v = .ref a → ∃ ob, s.heap.get? a = some ob ∧ ob.dict = none := by
  cases x with
  | str z =>
    obtain ⟨t, rfl⟩ := r
    cases (show T = "str" from ty)
    exact ⟨typeIs_str s z t, fun _ e => nomatch e⟩
  | int i =>
    obtain ⟨t, rfl⟩ := r
    cases (show T = "int" from ty)
    exact ⟨typeIs_int s i t, fun _ e => nomatch e⟩
  | ref p =>
    cases r
    rcases ty with ⟨rfl, xs, hq⟩ | ⟨rfl, o, hk, hc, hd⟩ | ⟨rfl, hk⟩ | ⟨rfl, S, n, hk⟩
    · obtain ⟨its, _, pl, _⟩ := I.list hq
      refine ⟨pl.isList.typeIs, fun a e => ?_⟩
      cases e
      obtain ⟨o, n, e, c, hd, _⟩ := pl
      exact ⟨o, e, hd⟩
    · refine ⟨⟨o, I.kIn p o hk, hc⟩, fun a e => ?_⟩
      cases e
      exact ⟨o, I.kIn _ o hk, hd⟩
    · have z : ∃ o, s.heap.get? p = some o ∧ o.ExactDict := by
        rcases hk with ⟨kvs, hk⟩ | ⟨kvs, hk⟩
        · obtain ⟨_, _, _, _, o, _, _, e, ex, _⟩ := I.hok p _ hk
          exact ⟨o, e, ex⟩
        · obtain ⟨_, _, _, _, o, _, _, e, ex, _⟩ := I.hok p _ hk
          exact ⟨o, e, ex⟩
      obtain ⟨o, e, ex⟩ := z
      refine ⟨⟨o, e, ex.1⟩, fun a e2 => ?_⟩
      cases e2
      exact ⟨o, e, ex.2.1⟩
    · obtain ⟨o, _, _, _, e, ex, _⟩ := I.hok p _ hk
      refine ⟨⟨o, e, ex.1⟩, fun a e2 => ?_⟩
      cases e2
      exact ⟨o, e, ex.2.1⟩
  | _ => exact False.elim ty
def tBM (K : PySem.W.Frag) (T : String) (r : V → List V → Hp → VK → Prop) (to : TE) (t : TA) : TE := fun σ H Q => to σ H fun x H1 => tyV K T x H1 ∧ t σ H1 fun xs H2 => r x xs H2 Q
variable {o e : Expr} {es : List Expr} {to : TE} {t : TA} {name : Str} {apos cpos : Pos} {T id : String} {r : V → List V → Hp → VK → Prop}
theorem pe_bm (pa : PlainAttrs T) (slot : Slot T name id) (hty : typeOf (.builtin id) = pure (.type "method_descriptor")) (hm : MtR X id r) (ho : PE X o to) (ha : PA X (e :: es) t)
    (hbase : attributeBase o name X.env (eval o X.env) = eval o X.env := by rfl)
    (hfew : ((backTo cpos (starEach (e :: es) X.env)).all (fun x => !x.1) && (backToKw cpos (keywordEach [] X.env)).all (fun x => x.1.isSome)
      && decide ((e :: es).length + ([] : List Keyword).length + (if ([] : List Keyword).isEmpty then 0 else 1) < 30)) = true := by rfl)
    (hline : (apos.endLine == cpos.line) = true := by rfl) (hs : starEach (e :: es) X.env = (false, eval e X.env) :: starEach es X.env := by rfl) (hplain : (backTo cpos (starEach es X.env)).any (·.1) = false := by rfl) :
    PE X (.Call (.Attribute o name apos) (e :: es) [] cpos) (tBM X.K T r to t) := by
  intro pins s σ H Q I h
  refine wpAny_Call_method_late hbase hfew hline rfl (thn (ho pins s σ H _ I h) fun v s1 ⟨x, H1, I1, r1, ty, q1⟩ => ?_)
  obtain ⟨h1, h2⟩ := tyV_is I1 r1 ty
  refine ⟨T, id, pa, slot, hty, h1, h2, ?_⟩
  have hA := ha cpos pins s1 σ H1 _ I1 q1
  rw [hs] at hA ⊢
  refine Calls.callWith_builtin (by show (false || (backTo cpos (starEach es X.env)).any (·.1)) = false; rw [hplain] <;> rfl) (Calls.evalArgs_plain ?_)
  exact thn hA fun us s2 ⟨vs, H2, I2, r2, q2⟩ => hm pins s2 σ H2 x vs v us Q I2 r1 r2 q2
/- xs.append(e), list.index on a module's tuple .. are MtR facts of 06m -/
end
end L2
namespace L2
open PySem PySem.Spec PyProof.Rows
def MtM (X : Cx) (id : String) (r : V → List V → Hp → VK → Prop) : Prop :=
  ∀ (pins : List (Addr × Obj)) (s : Shared) (σ : St) (H : Hp) (x : V) (xs : List V) (v : Value) (us : List Value) (Q : VK), Inv X pins σ H s → RelV x v → Vals xs us → r x xs H Q →
    wpAny (model X.prog X.w) X.A (call (.builtin id) (v :: us)) (EP X pins σ Q) X.xe s
theorem Vals.one : ∀ {x : V} {us : List Value}, Vals [x] us → ∃ u, us = [u] ∧ RelV x u
  | _, _, .cons r .nil => ⟨_, rfl, r⟩
theorem Vals.rep {xs : List V} {us : List Value} (h : Vals xs us) : ∀ k : Nat, Vals (List.replicate k xs).flatten (List.replicate k us).flatten
  | 0 => .nil
  | k + 1 => by
    rw [List.replicate_succ, List.replicate_succ, List.flatten_cons, List.flatten_cons]
    exact Vals.append h (Vals.rep h k)
theorem foldl_rep (its : List Value) : ∀ (k : Nat) (acc : List Value),
    List.foldl (fun x1 x2 => x1 ++ x2) acc.toArray (List.replicate k its.toArray) = (acc ++ (List.replicate k its).flatten).toArray
  | 0, acc => by simp
  | k + 1, acc => by
    have e : acc.toArray ++ its.toArray = (acc ++ its).toArray := by simp
    have e2 : (acc ++ its) ++ (List.replicate k its).flatten = acc ++ (List.replicate (k + 1) its).flatten := by
      rw [List.replicate_succ, List.flatten_cons, List.append_assoc]
    rw [← e2, ← foldl_rep its k (acc ++ its), ← e, List.replicate_succ, List.foldl_cons]
section
variable {X : Cx} {pins : List (Addr × Obj)} {σ : St} {H : Hp} {s : Shared} {l b : Addr} {xs ys zs : List V}
theorem Inv.lset {its its' : List Value} {n : Nat} {f : Array Value → Array Value} {t' : Nat} (I : Inv X pins σ H s) (hH : H l = some (.lst xs))
    (e : s.heap.get? l = some { cls := .type "list", data := .seq its.toArray n }) (hf : f its.toArray = its'.toArray) (hv : Vals ys its') (hz : ys.length ≤ sizeLine) :
    Inv X pins σ (upd H l (.lst ys)) { s with heap := s.heap.update l (Obj.mapSeq f), toks := t' } := by
  have q := PySem.IsL.update e f
  rw [hf] at q
  refine I.write (x := l) (e := l) (by rw [hH]; exact trivial) (.inl rfl) (fun b' u hb hu => (Heap.get?_update_other s.heap (Obj.mapSeq f) (Ne.symm hb)).trans hu) ⟨_, q⟩ ?_
  exact ⟨hz, its', _, hv, q⟩
theorem Inv.lnew {its : List Value} {t' : Nat} (I : Inv X pins σ H s) (hv : Vals ys its) (hz : ys.length ≤ sizeLine) :
    Inv X pins σ (upd H s.heap.objs.size (.lst ys)) { s with heap := s.heap.push { cls := .type "list", data := .seq its.toArray }, toks := t' } :=
  I.laid (fun _ _ q => Heap.get?_push_of_some _ q) (Nat.le_refl _) ⟨hz, its, 0, hv, Heap.get?_push_size _ rfl⟩
theorem Inv.fresh (I : Inv X pins σ H s) : H s.heap.objs.size = none := I.hok.fresh (Nat.le_refl _)
theorem Inv.lstM (I : Inv X pins σ H s) (hH : H l = some (.lst xs)) : xs.length ≤ sizeLine ∧ ∃ (its : List Value) (n : Nat), Vals xs its ∧ xs.length = its.length ∧ s.heap.get? l = some { cls := .type "list", data := .seq its.toArray n } := by
  obtain ⟨z, its, n, r, e⟩ := I.hok l _ hH
  exact ⟨z, its, n, r, r.length, e⟩
theorem notLongL {n : Nat} (h : n ≤ sizeLine) : Builtin.List.listTooLong n = false := by
  unfold Builtin.List.listTooLong
  exact decide_eq_false (by omega)
end
section
variable {X : Cx}
def rAppend : V → List V → Hp → VK → Prop := fun x vs H Q => ∃ l xs y, x = .ref l ∧ vs = [y] ∧ H l = some (.lst xs) ∧ xs.length < sizeLine ∧ Q .non (upd H l (.lst (xs ++ [y])))
theorem mt_append : MtM X "list.append" rAppend := by
  intro pins s σ H x vs v us Q I rx rv h
  obtain ⟨l, xs, y, rfl, rfl, hH, hz, q⟩ := h
  cases rx
  obtain ⟨u, rfl, ru⟩ := rv.one
  obtain ⟨z, its, n, r, hl, e⟩ := I.lstM hH
  refine call_meets F.slot_list_append ⟨_, e, rfl⟩ F.entry_list_append (F.args_list_append_2 _ _) (PySem.list_append l its.toArray n u (by rw [List.size_toArray]; omega)) ⟨e, ?_⟩
  refine ⟨.non, _, I.lset (its' := its ++ [u]) hH e (by simp) (r.append (.cons ru .nil)) ?_, rfl, q⟩
  rw [List.length_append, List.length_singleton]
  omega
def rExtend : V → List V → Hp → VK → Prop := fun x vs H Q => ∃ l b xs zs, x = .ref l ∧ vs = [.ref b] ∧ H l = some (.lst xs) ∧ H b = some (.lst zs) ∧ xs.length + zs.length ≤ sizeLine ∧ Q .non (upd H l (.lst (xs ++ zs)))
theorem mt_extend : MtM X "list.extend" rExtend := by
  intro pins s σ H x vs v us Q I rx rv h
  obtain ⟨l, b, xs, zs, rfl, rfl, hH, hB, hz, q⟩ := h
  cases rx
  obtain ⟨u, rfl, ru⟩ := rv.one
  cases ru
  obtain ⟨z, its, n, r, hl, e⟩ := I.lstM hH
  obtain ⟨z2, its2, n2, r2, hl2, e2⟩ := I.lstM hB
  have hsz : its.toArray.size + its2.toArray.size ≤ sizeLine := by rw [List.size_toArray, List.size_toArray]; omega
  have hlong : ¬ (!its.toArray.isEmpty && Builtin.List.listTooLong (its.toArray.size + its2.toArray.size)) = true := by
    rw [notLongL hsz, Bool.and_false]
    exact Bool.false_ne_true
  refine call_meets F.slot_list_extend ⟨_, e, rfl⟩ F.entry_list_extend (F.args_list_extend_2 _ _)
    (AutoSeq1.list_extend_list_list_0 l its.toArray n b its2.toArray n2 hlong (by rw [List.size_toArray]; omega) (by omega)) ⟨e, e2, ?_⟩
  refine ⟨.non, _, I.lset (its' := its ++ its2) hH e (by simp) (r.append r2) ?_, rfl, q⟩
  rw [List.length_append]
  omega
def rCat : R2 := fun x y H Q => ∃ l b xs zs, x = .ref l ∧ y = .ref b ∧ H l = some (.lst xs) ∧ H b = some (.lst zs) ∧ xs.length + zs.length ≤ sizeLine ∧ ∀ p, H p = none → Q (.ref p) (upd H p (.lst (xs ++ zs)))
theorem op_cat : OpR X (binaryOp .Add) rCat := by
  intro pins s σ H x y v u Q I rx ry h
  obtain ⟨l, b, xs, zs, rfl, rfl, hH, hB, hz, q⟩ := h
  cases rx
  cases ry
  obtain ⟨z, its, n, r, hl, e⟩ := I.lstM hH
  obtain ⟨z2, its2, n2, r2, hl2, e2⟩ := I.lstM hB
  refine PySem.P.add_list e e2 ?_ (by rw [List.size_toArray, List.size_toArray]; omega)
  have ea : its.toArray ++ its2.toArray = (its ++ its2).toArray := by simp
  rw [ea]
  exact ⟨.ref _, _, I.lnew (t' := s.toks) (r.append r2) (by rw [List.length_append]; omega), rfl, q _ I.fresh⟩
def rRep : R2 := fun x y H Q => ∃ l k xs, x = .ref l ∧ y = .int k ∧ H l = some (.lst xs) ∧ -(2 ^ 63) ≤ k ∧ k < 2 ^ 63 ∧ xs.length * k.toNat ≤ sizeLine ∧
  ∀ p, H p = none → Q (.ref p) (upd H p (.lst (List.replicate k.toNat xs).flatten))
theorem len_rep {α : Type} (xs : List α) (k : Nat) : (List.replicate k xs).flatten.length = k * xs.length := by
  induction k with
  | zero => simp
  | succ k ih => rw [List.replicate_succ, List.flatten_cons, List.length_append, ih, Nat.succ_mul, Nat.add_comm]
theorem op_rep : OpR X (binaryOp .Mult) rRep := by
  intro pins s σ H x y v u Q I rx ry h
  obtain ⟨l, k, xs, rfl, rfl, hH, h1, h2, hz, q⟩ := h
  cases rx
  obtain ⟨t, rfl⟩ := ry
  obtain ⟨z, its, n, r, hl, e⟩ := I.lstM hH
  have hlen : its.toArray.size * k.toNat ≤ sizeLine := by rw [List.size_toArray, ← hl]; exact hz
  have hcap : ¬ its.toArray.size * k.toNat > (2 ^ 63 - 1) / 8 := by
    have : (sizeLine : Nat) ≤ (2 ^ 63 - 1) / 8 := by decide
    omega
  have hfit : ¬ (!Builtin.List.listFitsIndex k) = true := by
    rw [fitsIndex_both h1 h2]
    exact Bool.false_ne_true
  have hlong : ¬ Builtin.List.listTooLong (its.toArray.size * k.toNat) = true := by
    rw [notLongL hlen]
    exact Bool.false_ne_true
  have hnew : List.foldl (fun x1 x2 => x1 ++ x2) #[] (List.replicate (if its.toArray.isEmpty = true then 0 else k.toNat) its.toArray) = (List.replicate k.toNat its).flatten.toArray := by
    have f0 : ∀ m : Nat, List.foldl (fun x1 x2 => x1 ++ x2) #[] (List.replicate m its.toArray) = (List.replicate m its).flatten.toArray := fun m => by
      have := foldl_rep its m []
      rw [List.nil_append] at this
      exact this
    rw [f0]
    cases its with
    | nil => simp
    | cons a r' => rw [if_neg (by simp)]
  refine wpAny_binaryOp_repeat_ref (T := "list") (U := "int") (by decide) ⟨_, e, rfl⟩ (fun s' => typeIs_int s' k t) noFill_list_mul F.fills_int_mul F.slot_int_rmul repeat_list F.slot_int_index.lookup
    (call_meets F.slot_int_rmul (typeIs_int s k t) F.entry_int_rmul (F.args_int_rmul_2 _ _) (int___rmul___int_list k t l its.toArray n)
      ⟨e, rfl, ⟨_, e, rfl⟩, call_meets F.slot_list_mul ⟨_, e, rfl⟩ F.entry_list_mul (F.args_list_mul_2 _ _) (AutoListH.list___mul___list_int_3 l its.toArray n k t hfit hcap hlong) ⟨e, ?_⟩⟩)
  rw [hnew]
  exact ⟨.ref _, _, I.lnew (t' := s.toks) (r.rep k.toNat) (by rw [len_rep, Nat.mul_comm]; exact hz), rfl, q _ I.fresh⟩
end
section
variable {prog : Program} {w : World} {A : Around} {E : Value → Shared → Prop} {s : Shared}
set_option maxRecDepth 100000 in
end
section
variable {X : Cx}
end
end L2
namespace L2
open PySem PySem.Spec PyProof.Rows
theorem Vals.ints : ∀ {ns : List Int} {us : List Value}, Vals (ns.map V.int) us → IntsAre us ns
  | [], us, h => by
    rw [List.map_nil] at h
    cases h
    exact IntsAre.nil
  | n :: ns, us, h => by
    rw [List.map_cons] at h
    cases h with
    | cons r t =>
      obtain ⟨k, rfl⟩ := r
      exact IntsAre.cons n k (Vals.ints t)
theorem vals_of_ints : ∀ {us : List Value} {ns : List Int}, IntsAre us ns → Vals (ns.map V.int) us
  | _, _, .nil => by rw [List.map_nil]; exact Paired.nil
  | _, _, .cons n t h => by rw [List.map_cons]; exact Paired.cons (show RelV (V.int n) (Value.int n t) from ⟨t, rfl⟩) (vals_of_ints h)
theorem Vals.ref1 {a : Addr} {us : List Value} (r : Vals [V.ref a] us) : us = [Value.ref a] := by
  cases r with
  | cons r t =>
    cases t
    cases r
    rfl
section
variable {prog : Program} {w : World} {A : Around} {E : Value → Shared → Prop} {s : Shared} {l : Addr} {its : List Value} {ns : List Int} {Q : Value → Shared → Prop}
theorem sum_raw (hh : A.handled = none) (hl : s.heap.IsList l its.toArray) (hi : IntsAre its ns)
    (h : ∀ h' tk t', (∀ b o, s.heap.get? b = some o → h'.get? b = some o) → Q (.int ns.sum t') { s with heap := h', toks := tk }) : wpAny (model prog w) A (call (.builtin "sum") [.ref l]) Q E s := by
  obtain ⟨xs, e⟩ := hi.allInts.items
  have hn : numsOf (intItems xs).toList = ns := by rw [← e]; exact hi.numsOf
  rw [nums_intItems] at hn
  rw [e] at hl
  refine PySem.sum_intListG hh hl fun h' tk t' hk => ?_
  have := h h' tk t' hk
  rw [preSum_eq, List.take_of_length_le (by simp), hn]; exact this
theorem max_raw (hh : A.handled = none) (hl : s.heap.IsList l its.toArray) (hi : IntsAre its ns) (hne : 0 < ns.length)
    (h : ∀ h' tk M t', (∀ b o, s.heap.get? b = some o → h'.get? b = some o) → M ∈ ns → (∀ a, a ∈ ns → a ≤ M) → Q (.int M t') { s with heap := h', toks := tk }) : wpAny (model prog w) A (call (.builtin "max") [.ref l]) Q E s := by
  obtain ⟨xs, e⟩ := hi.allInts.items
  have hn : numsOf (intItems xs).toList = ns := by rw [← e]; exact hi.numsOf
  rw [nums_intItems] at hn
  subst hn
  rw [e] at hl
  have hsz : 0 < xs.size := by simpa using hne
  refine PySem.max_intList hh hl hsz fun v h' tk hv hk => ?_
  obtain ⟨t, rfl⟩ := intItems_at hv
  obtain ⟨h1, h2⟩ := argBest_gt (numAt xs) (xs.size - 1)
  refine h h' tk _ t hk ?_ fun a ha => ?_
  · rw [numAt_eq]; exact PySem.getD_mem (by rw [List.length_map, Array.length_toList]; omega)
  · obtain ⟨j, hj, rfl⟩ := mem_getD ha
    rw [List.length_map, Array.length_toList] at hj
    rw [← numAt_eq]; exact h2 j (by omega)
end
section
variable {X : Cx}
def rSum (K : PySem.W.Frag) : List V → Hp → VK → Prop := fun vs H Q => ∃ (a : Addr) (ns : List Int), vs = [V.ref a] ∧ SqL K H a (ns.map V.int) ∧ Q (.int ns.sum) H
def rMax (K : PySem.W.Frag) : List V → Hp → VK → Prop := fun vs H Q => ∃ (a : Addr) (ns : List Int), vs = [V.ref a] ∧ SqL K H a (ns.map V.int) ∧ 0 < ns.length ∧ ∀ m, m ∈ ns → (∀ y, y ∈ ns → y ≤ m) → Q (.int m) H
theorem cr_sum (hc : X.calm = true) : CallR X (.builtin "sum") (rSum X.K) := by
  intro pins s σ H vs us Q I r h
  obtain ⟨a, ns, rfl, hs, q⟩ := h
  obtain ⟨its, rv, hl, _⟩ := I.list hs
  rw [Vals.ref1 r]
  exact sum_raw (I.ok.hd hc) hl.isList rv.ints fun h' tk t' hk => ⟨.int _, H, I.kept hk, ⟨_, rfl⟩, q⟩
theorem cr_max (hc : X.calm = true) : CallR X (.builtin "max") (rMax X.K) := by
  intro pins s σ H vs us Q I r h
  obtain ⟨a, ns, rfl, hs, hne, q⟩ := h
  obtain ⟨its, rv, hl, _⟩ := I.list hs
  rw [Vals.ref1 r]
  exact max_raw (I.ok.hd hc) hl.isList rv.ints hne fun h' tk m t' hk h1 h2 => ⟨.int _, H, I.kept hk, ⟨_, rfl⟩, q m h1 h2⟩
def rSorted (K : PySem.W.Frag) : List V → Hp → VK → Prop := fun vs H Q => ∃ (a : Addr) (ns : List Int), vs = [V.ref a] ∧ SqL K H a (ns.map V.int) ∧ ns.length < 64 ∧
  ∀ (ns' : List Int) (p : Addr), ns'.Perm ns → ns'.Pairwise (· ≤ ·) → H p = none → Q (.ref p) (upd H p (.lst (ns'.map V.int)))
theorem small64 {n : Nat} (h : n < 64) : n ≤ sizeLine := by rw [sizeLine_eq]; omega
theorem cr_sorted : CallR X (.builtin "sorted") (rSorted X.K) := by
  intro pins s σ H vs us Q I r h
  obtain ⟨a, ns, rfl, hs, h64, q⟩ := h
  obtain ⟨its, rv, hl, _⟩ := I.list hs
  rw [Vals.ref1 r]
  have hi := rv.ints
  refine PyProof.Rows.sorted_ints hl.isList hi (by rw [hi.length]; exact h64) fun out ns' h1 h2 h3 => ?_
  obtain ⟨ep, he'⟩ := PyProof.Rows.sortedAll_at s.heap its out
  have hlen : (ns'.map V.int).length ≤ sizeLine := by rw [List.length_map, h2.length_eq]; exact small64 h64
  exact ⟨.ref _, upd H (s.heap.objs.size + 1) (.lst (ns'.map V.int)), I.laid (t' := s.toks) (fun _ _ => PyProof.Rows.sortedAll_old) (Nat.le_succ _) ⟨hlen, out.toList, ep, vals_of_ints h1, he'⟩, rfl, q ns' _ h2 h3 (I.hok.fresh (Nat.le_succ _))⟩
end
section
variable {X : Cx}
end
section
variable {X : Cx}
end
section
variable {X : Cx}
end
mutual
inductive Dp (K : PySem.W.Frag) (H : Hp) : V → PyData → Prop
  | non : Dp K H .non .none
  | bl (b : Bool) : Dp K H (.bl b) (.bool b)
  | int (i : Int) : Dp K H (.int i) (.int i)
  | str (x : Str) : Dp K H (.str x) (.str x)
  | lst {a : Addr} {xs : List V} {ds : List PyData} : SqL K H a xs → DpAll K H xs ds → Dp K H (.ref a) (.list ds)
  | tup {a : Addr} {xs : List V} {ds : List PyData} : SqT K H a xs → DpAll K H xs ds → Dp K H (.ref a) (.tuple ds)
inductive DpAll (K : PySem.W.Frag) (H : Hp) : List V → List PyData → Prop
  | nil : DpAll K H [] []
  | cons {v : V} {vs : List V} {d : PyData} {ds : List PyData} : Dp K H v d → DpAll K H vs ds → DpAll K H (v :: vs) (d :: ds)
end
section
variable {X : Cx} {pins : List (Addr × Obj)} {σ : St} {H : Hp} {s : Shared}
mutual
theorem Dp.reads (I : Inv X pins σ H s) : ∀ (d : PyData) (v : V) (u : Value), Dp X.K H v d → RelV v u → ∃ as, Reads s.heap u d as
  | .none, _, _, h, r => by
    cases h
    cases r
    exact ⟨_, Reads.none⟩
  | .bool b, _, _, h, r => by
    cases h
    cases r
    exact ⟨_, Reads.bool b⟩
  | .int i, _, _, h, r => by
    cases h
    obtain ⟨t, rfl⟩ := r
    exact ⟨_, Reads.int i t⟩
  | .str x, _, _, h, r => by
    cases h
    obtain ⟨t, rfl⟩ := r
    exact ⟨_, Reads.str x t⟩
  | .list ds, _, _, h, r => by
    cases h with
    | lst hs ha =>
      cases r
      obtain ⟨its, rv, ⟨o, n, ho, hc, _, hd⟩, _⟩ := I.list hs
      obtain ⟨as, hr⟩ := Dp.readsAll I ds _ its ha rv
      exact ⟨_, Reads.list ho hc hd hr⟩
  | .tuple ds, _, _, h, r => by
    cases h with
    | tup hs ha =>
      cases r
      obtain ⟨its, rv, ⟨o, ho, hc, n, hd⟩, _⟩ := I.tuple hs
      obtain ⟨as, hr⟩ := Dp.readsAll I ds _ its ha rv
      exact ⟨_, Reads.tuple ho hc hd hr⟩
  | .dict _, _, _, h, _ => by cases h
theorem Dp.readsAll (I : Inv X pins σ H s) : ∀ (ds : List PyData) (vs : List V) (us : List Value), DpAll X.K H vs ds → Vals vs us → ∃ as, ReadsAll s.heap us ds as
  | [], _, _, h, r => by
    cases h
    cases r
    exact ⟨_, ReadsAll.nil⟩
  | d :: ds, _, _, h, r => by
    cases h with
    | cons h1 h2 =>
      cases r with
      | cons r1 r2 =>
        obtain ⟨as, q1⟩ := Dp.reads I d _ _ h1 r1
        obtain ⟨bs, q2⟩ := Dp.readsAll I ds _ _ h2 r2
        exact ⟨_, ReadsAll.cons q1 q2⟩
end
end
section
variable {X : Cx}
def rEqD (K : PySem.W.Frag) : R2 := fun x y H Q => ∃ d e, Dp K H x d ∧ Dp K H y e ∧ SeqAt.shaped d = true ∧ SeqAt.shaped e = true ∧ Q (.bl (PyData.eqv d e)) H
def rNeD (K : PySem.W.Frag) : R2 := fun x y H Q => ∃ d e, Dp K H x d ∧ Dp K H y e ∧ SeqAt.shaped d = true ∧ SeqAt.shaped e = true ∧ Q (.bl (!PyData.eqv d e)) H
theorem op_eqD (hu : X.A.units + 64 < cLine) : OpR X (compareOp .Eq) (rEqD X.K) := by
  intro pins s σ H x y v u Q I rx ry h
  obtain ⟨d, e, hd, he, sd, se, q⟩ := h
  obtain ⟨as, r1⟩ := Dp.reads I d x v hd rx
  obtain ⟨bs, r2⟩ := Dp.reads I e y u he ry
  exact SeqAt.compareEq_shaped r1 r2 sd se hu ⟨.bl _, H, I, rfl, q⟩
theorem op_neD (hu : X.A.units + 64 < cLine) : OpR X (compareOp .NotEq) (rNeD X.K) := by
  intro pins s σ H x y v u Q I rx ry h
  obtain ⟨d, e, hd, he, sd, se, q⟩ := h
  obtain ⟨as, r1⟩ := Dp.reads I d x v hd rx
  obtain ⟨bs, r2⟩ := Dp.reads I e y u he ry
  exact SeqAt.compareNe_shaped r1 r2 sd se hu ⟨.bl _, H, I, rfl, q⟩
end
end L2
namespace L2
open PySem PySem.Spec PyProof.Rows
abbrev CellAt (h : Heap) (c : Addr) (v : Option Value) : Prop := h.IsCell c v
def relS (scope sc : Scope) : Scope :=
  { scope with names := scope.names.map fun (n, k) => if (k == .free && sc.kind == .function && sc.names.lookup n == some .cell) then (n, .cell) else (n, k) }
def cloFrom (cells : List (Str × Addr)) : List (Str × NameKind) → List (Str × Addr) → List (Str × Addr)
  | [], acc => acc
  | (n, k) :: r, acc => if k == .free then cloFrom cells r ((n, (cells.lookup n).getD 0) :: acc) else cloFrom cells r acc
theorem closure_loop (env : Env) (f : Str × NameKind → List (Str × Addr) → Sem (ForInStep (List (Str × Addr))))
    (hf : ∀ n k c, f (n, k) c = if k == .free then (do let a ← cellOf env n; pure (.yield ((n, a) :: c))) else pure (.yield c)) :
    ∀ (names : List (Str × NameKind)) (acc : List (Str × Addr)), (∀ y ∈ names, y.2 = .free → ∃ c, env.cells.lookup y.1 = some c) → forIn names acc f = pure (cloFrom env.cells names acc)
  | [], acc, _ => by rw [List.forIn_nil]; rfl
  | (n, k) :: r, acc, h => by
    rw [List.forIn_cons, hf]
    have ih := fun acc => closure_loop env f hf r acc fun y hy => h y (List.mem_cons_of_mem _ hy)
    unfold cloFrom
    by_cases hk : (k == NameKind.free) = true
    · rw [if_pos hk, if_pos hk]
      obtain ⟨c, hc⟩ := h (n, k) List.mem_cons_self (by simpa using hk)
      have e : cellOf env n = pure c := by unfold cellOf; rw [hc]
      rw [e]
      have e2 : (env.cells.lookup n).getD 0 = c := by rw [hc]; rfl
      rw [e2]
      exact ih _
    · rw [if_neg hk, if_neg hk]
      exact ih _
theorem closure_ok {scope : Scope} {env : Env} (h : ∀ y ∈ scope.names, y.2 = .free → ∃ c, env.cells.lookup y.1 = some c) : closureFor scope env = pure (cloFrom env.cells scope.names []) := by
  simp only [closureFor]
  rw [closure_loop env _ (fun n k c => rfl) scope.names [] h]
  rfl
theorem mem_lookup {α : Type} : ∀ {l : List (Str × α)} {n : Str} {c : α}, (n, c) ∈ l → ∃ c', l.lookup n = some c'
  | (k, v) :: r, n, c, h => by
    rw [List.lookup_cons]
    cases hb : n == k with
    | true => exact ⟨_, rfl⟩
    | false =>
      rcases List.mem_cons.mp h with e | h
      · cases e; simp at hb
      · exact mem_lookup h
theorem cloFrom_mem {cells : List (Str × Addr)} : ∀ {names : List (Str × NameKind)} {acc : List (Str × Addr)} {n : Str} {c : Addr}, (n, c) ∈ cloFrom cells names acc → (n, c) ∈ acc ∨ ((n, .free) ∈ names ∧ c = (cells.lookup n).getD 0)
  | [], _, _, _, h => .inl h
  | (m, k) :: r, acc, n, c, h => by
    unfold cloFrom at h
    split at h
    · rename_i hk
      have hk : k = .free := by simpa using hk
      rcases cloFrom_mem h with h | ⟨h1, h2⟩
      · rcases List.mem_cons.mp h with e | h
        · cases e; exact .inr ⟨hk ▸ List.mem_cons_self, rfl⟩
        · exact .inl h
      · exact .inr ⟨List.mem_cons_of_mem _ h1, h2⟩
    · rcases cloFrom_mem h with h | ⟨h1, h2⟩
      · exact .inl h
      · exact .inr ⟨List.mem_cons_of_mem _ h1, h2⟩
theorem cloFrom_acc {cells : List (Str × Addr)} : ∀ {names : List (Str × NameKind)} {acc : List (Str × Addr)} {p : Str × Addr}, p ∈ acc → p ∈ cloFrom cells names acc
  | [], _, _, h => h
  | (m, k) :: r, acc, p, h => by
    unfold cloFrom
    split
    · exact cloFrom_acc (List.mem_cons_of_mem _ h)
    · exact cloFrom_acc h
theorem cloFrom_has {cells : List (Str × Addr)} : ∀ {names : List (Str × NameKind)} {acc : List (Str × Addr)} {n : Str}, (n, .free) ∈ names → (n, (cells.lookup n).getD 0) ∈ cloFrom cells names acc
  | (m, k) :: r, acc, n, h => by
    unfold cloFrom
    rcases List.mem_cons.mp h with e | h
    · cases e
      exact cloFrom_acc List.mem_cons_self
    · split
      · exact cloFrom_has h
      · exact cloFrom_has h
theorem cells_mem : ∀ {names : List (Str × NameKind)} {h : Heap} {acc : List (Str × Addr)} {x : Str} {c : Addr}, (x, c) ∈ cellsFrom h.objs.size names acc →
    (x, c) ∈ acc ∨ ((x, .cell) ∈ names ∧ h.objs.size ≤ c ∧ CellAt (pushCells h names) c none)
  | [], _, _, _, _, h => .inl h
  | (n, k) :: r, h, acc, x, c, hm => by
    unfold cellsFrom at hm
    unfold pushCells
    split at hm
    · rename_i hk
      rw [if_pos hk]
      have hk : k = .cell := by simpa using hk
      rw [← Heap.size_push h { cls := .type "cell", data := .cell none }] at hm
      rcases cells_mem hm with hm | ⟨h1, h2, h3⟩
      · rcases List.mem_cons.mp hm with e | hm
        · cases e
          exact .inr ⟨hk ▸ List.mem_cons_self, Nat.le_refl _, _, pushCells_keeps r _ _ _ (Heap.get?_push_size _ rfl), rfl⟩
        · exact .inl hm
      · rw [Heap.size_push] at h2
        exact .inr ⟨List.mem_cons_of_mem _ h1, Nat.le_of_succ_le h2, h3⟩
    · rename_i hk
      rw [if_neg hk]
      rcases cells_mem hm with hm | ⟨h1, h2, h3⟩
      · exact .inl hm
      · exact .inr ⟨List.mem_cons_of_mem _ h1, h2, h3⟩
theorem cells_acc : ∀ {names : List (Str × NameKind)} {n : Nat} {acc : List (Str × Addr)} {p : Str × Addr}, p ∈ acc → p ∈ cellsFrom n names acc
  | [], _, _, _, h => h
  | (m, k) :: r, n, acc, p, h => by
    unfold cellsFrom
    split
    · exact cells_acc (List.mem_cons_of_mem _ h)
    · exact cells_acc h
theorem cells_has : ∀ {names : List (Str × NameKind)} {n : Nat} {acc : List (Str × Addr)} {x : Str}, (x, .cell) ∈ names → ∃ c, (x, c) ∈ cellsFrom n names acc
  | (m, k) :: r, n, acc, x, h => by
    unfold cellsFrom
    rcases List.mem_cons.mp h with e | h
    · cases e
      exact ⟨n, cells_acc List.mem_cons_self⟩
    · split
      · exact cells_has h
      · exact cells_has h
theorem cells_inj : ∀ {names : List (Str × NameKind)} {h : Heap} {acc : List (Str × Addr)} {x y : Str} {c : Addr}, (∀ p ∈ acc, p.2 < h.objs.size) → (∀ x y c, (x, c) ∈ acc → (y, c) ∈ acc → x = y) →
    (x, c) ∈ cellsFrom h.objs.size names acc → (y, c) ∈ cellsFrom h.objs.size names acc → x = y
  | [], _, _, _, _, _, _, hi, h1, h2 => hi _ _ _ h1 h2
  | (n, k) :: r, h, acc, x, y, c, hl, hi, h1, h2 => by
    unfold cellsFrom at h1 h2
    split at h1
    · rename_i hk
      rw [if_pos hk] at h2
      rw [← Heap.size_push h { cls := .type "cell", data := .cell none }] at h1 h2
      refine cells_inj (h := h.push _) (fun p hp => ?_) (fun x y c a b => ?_) h1 h2
      · rw [Heap.size_push]
        rcases List.mem_cons.mp hp with rfl | hp
        · exact Nat.lt_succ_self _
        · exact Nat.lt_succ_of_lt (hl p hp)
      · rcases List.mem_cons.mp a with e | a <;> rcases List.mem_cons.mp b with e' | b
        · cases e; cases e'; rfl
        · cases e; exact absurd (hl _ b) (Nat.lt_irrefl _)
        · cases e'; exact absurd (hl _ a) (Nat.lt_irrefl _)
        · exact hi _ _ _ a b
    · rename_i hk
      rw [if_neg hk] at h2
      exact cells_inj hl hi h1 h2
theorem newEnv_comp {M : Model} {A : Around} {E : Value → Shared → Prop} {s : Shared} {scope : Scope} {globals : Addr} {closure : List (Str × Addr)} {qual : Str} {func : Option Addr} {code : Value} {around : Env} {builtins : Addr} {Q : Env → Shared → Prop}
    (h : Q (newEnv scope s.heap.objs.size globals (cellsFrom (s.heap.objs.size + 1) scope.names closure) qual func code (some around) builtins)
      { s with heap := pushCells (s.heap.push { cls := .type "dict", data := .dict #[] }) scope.names }) :
    wpAny M A (newFunctionEnv scope globals closure [] qual func code (some around) builtins) Q E s := by
  simp only [newFunctionEnv, Option.isSome_some, if_true]
  refine wpAny_bind (wpAny_alloc ?_)
  refine wpAny_bind (wpAny_layCells _ (fun n k c => rfl) scope.names closure _ _ ?_)
  rw [show ({ s with heap := s.heap.push { cls := .type "dict", data := .dict #[] } } : Shared).heap.objs.size = s.heap.objs.size + 1 from Heap.size_push ..]
  rw [List.forIn_nil]
  exact wpAny_bind (wpAny_pure (wpAny_pure h))
theorem lookup_relS {sc : Scope} : ∀ {names : List (Str × NameKind)} {x : Str} {k : NameKind},
    (names.map fun (n, k) => if (k == NameKind.free && sc.kind == .function && sc.names.lookup n == some .cell) then (n, NameKind.cell) else (n, k)).lookup x = some k →
    ∃ k', names.lookup x = some k' ∧ (k = k' ∨ (k' = .free ∧ k = .cell))
  | [], _, _, h => by simp at h
  | (n, k₀) :: r, x, k, h => by
    have ih := @lookup_relS sc r x k
    have h' : List.lookup x ((if (k₀ == NameKind.free && sc.kind == .function && sc.names.lookup n == some .cell) = true then (n, NameKind.cell) else (n, k₀)) :: (r.map _)) = some k := h
    cases hx : x == n with
    | true =>
      simp only [List.lookup_cons, hx]
      by_cases hc : (k₀ == NameKind.free && sc.kind == .function && sc.names.lookup n == some .cell) = true
      · rw [if_pos hc] at h'
        simp only [List.lookup_cons, hx] at h'
        cases h'
        simp only [Bool.and_eq_true, beq_iff_eq] at hc
        exact ⟨k₀, rfl, .inr ⟨hc.1.1, rfl⟩⟩
      · rw [if_neg hc] at h'
        simp only [List.lookup_cons, hx] at h'
        cases h'
        exact ⟨_, rfl, .inl rfl⟩
    | false =>
      simp only [List.lookup_cons, hx]
      by_cases hc : (k₀ == NameKind.free && sc.kind == .function && sc.names.lookup n == some .cell) = true
      · rw [if_pos hc] at h'
        simp only [List.lookup_cons, hx] at h'
        exact ih h'
      · rw [if_neg hc] at h'
        simp only [List.lookup_cons, hx] at h'
        exact ih h'
structure BlkOk (N : List Str) (sc scope : Scope) (own : List (Str × Nat)) : Prop where
  kind : scope.kind = .function
  uniq : ∀ y ∈ scope.names, scope.names.lookup y.1 = some y.2
  ix : ∀ p ∈ own, N[p.2]? = some p.1
  free : ∀ y ∈ scope.names, y.2 = .free → sc.names.lookup y.1 = some .cell ∨ sc.names.lookup y.1 = some .free
  own : ∀ y ∈ scope.names, y.2 = .local ∨ y.2 = .cell → y.1 ∈ own.map (·.1) ∨ y.1 ∉ N
def wipe (σ : St) : List Nat → St
  | [] => σ
  | v :: vs => (wipe σ vs).set v none
theorem wipe_length (σ : St) : ∀ vs : List Nat, (wipe σ vs).length = σ.length
  | [] => rfl
  | v :: vs => by unfold wipe; rw [List.length_set, wipe_length σ vs]
theorem wipe_some {σ : St} {i : Nat} {x : V} : ∀ {vs : List Nat}, (wipe σ vs)[i]? = some (some x) → σ[i]? = some (some x) ∧ i ∉ vs
  | [], h => ⟨h, by simp⟩
  | v :: vs, h => by
    unfold wipe at h
    by_cases hi : v = i
    · subst hi
      by_cases hv : v < (wipe σ vs).length
      · rw [List.getElem?_set_self hv] at h; cases h
      · rw [List.getElem?_eq_none (by simpa using hv)] at h; cases h
    · rw [List.getElem?_set_ne hi] at h
      obtain ⟨h1, h2⟩ := wipe_some h
      exact ⟨h1, by simp only [List.mem_cons, not_or]; exact ⟨fun e => hi e.symm, h2⟩⟩
abbrev Cx.blk (X : Cx) (s : Shared) (H : Hp) (scope : Scope) (cenv : Env) (fp : List Addr) : Cx := { X with s_0 := s, H_0 := H, env := cenv, outer := X.stack, ex := fp, fn := fun x => scope.names.lookup x == some .cell, pn := [], xe := fun _ _ => False }
section
variable {X : Cx} {pins : List (Addr × Obj)} {σ : St} {H : Hp} {s : Shared}
theorem block_start {scope : Scope} {own : List (Str × Nat)} {fp : List Addr} (I : Inv X pins σ H s) (ok : BlkOk X.N X.env.scope scope own) (hN : X.N.Nodup) (hfp : ∀ b ∈ fp, FpOk X pins H b ∧ b < s.heap.objs.size) :
    Inv (X.blk s H scope (compEnvC scope (cellsFrom (s.heap.objs.size + 1) scope.names (cloFrom X.env.cells scope.names [])) s.heap.objs.size X.env) fp) [] (wipe σ (own.map (·.2))) H { s with heap := pushCells (s.heap.push { cls := .type "dict", data := .dict #[] }) scope.names } := by
  have hfree : ∀ y ∈ scope.names, y.2 = .free → ∃ c, X.env.cells.lookup y.1 = some c := fun y hy e => by
    rcases ok.free y hy e with k | k
    · exact I.ok.has _ (.inl k)
    · exact I.ok.has _ (.inr k)
  generalize hcenv : compEnvC scope (cellsFrom (s.heap.objs.size + 1) scope.names (cloFrom X.env.cells scope.names [])) s.heap.objs.size X.env = cenv
  have kp : ∀ b o, s.heap.get? b = some o → (pushCells (s.heap.push { cls := .type "dict", data := .dict #[] }) scope.names).get? b = some o := fun b o e => pushCells_keeps _ _ _ _ (Heap.get?_push_of_some _ e)
  have hL : cenv.locals = s.heap.objs.size := by rw [← hcenv]; rfl
  have hcl : cenv.cells = cellsFrom (s.heap.objs.size + 1) scope.names (cloFrom X.env.cells scope.names []) := by rw [← hcenv]; rfl
  have hsc : cenv.scope = relS scope X.env.scope := by rw [← hcenv]; rfl
  rw [← Heap.size_push s.heap { cls := .type "dict", data := .dict #[] }] at hcl
  have cm : ∀ {y c}, (y, c) ∈ cloFrom X.env.cells scope.names [] → X.env.cells.lookup y = some c ∧ c < s.heap.objs.size := fun {y c} hm => by
    rcases cloFrom_mem hm with hm | ⟨h1, rfl⟩
    · cases hm
    · obtain ⟨c, hc⟩ := hfree _ h1 rfl
      rw [hc]
      obtain ⟨w, z⟩ := I.cell _ _ hc
      exact ⟨rfl, z.lt⟩
  have mem : ∀ {y c}, cenv.cells.lookup y = some c → (X.env.cells.lookup y = some c ∧ c < s.heap.objs.size) ∨ (s.heap.objs.size + 1 ≤ c ∧ CellAt (pushCells (s.heap.push { cls := .type "dict", data := .dict #[] }) scope.names) c none) := fun {y c} e => by
    rw [hcl] at e
    rcases cells_mem (PySem.mem_of_lookup e) with hm | ⟨_, h2, h3⟩
    · exact .inl (cm hm)
    · rw [Heap.size_push] at h2; exact .inr ⟨h2, h3⟩
  have look : ∀ {y}, scope.names.lookup y = some .free → ∃ c, cenv.cells.lookup y = some c ∧ X.env.cells.lookup y = some c := fun {y} hl => by
    have hy : (y, NameKind.free) ∈ scope.names := PySem.mem_of_lookup hl
    obtain ⟨c', e'⟩ := mem_lookup (cells_acc (names := scope.names) (n := (s.heap.push { cls := .type "dict", data := .dict #[] }).objs.size) (cloFrom_has (cells := X.env.cells) (acc := []) hy))
    rw [← hcl] at e'
    refine ⟨c', e', ?_⟩
    rw [hcl] at e'
    rcases cells_mem (PySem.mem_of_lookup e') with hm | ⟨h1, _, _⟩
    · exact (cm hm).1
    · have := ok.uniq _ h1
      rw [hl] at this; cases this
  have okB : (X.blk s H scope cenv fp).Ok := by
    refine ⟨I.ok.mod, by show cenv.scope.kind = _; rw [hsc]; exact ok.kind, by show cenv.globals = _; rw [← hcenv]; exact I.ok.glob, by show cenv.builtins = _; rw [← hcenv]; exact I.ok.blt, by show s.heap.objs.size ≤ cenv.locals; rw [hL]; exact Nat.le_refl _,
      fun y z c e1 e2 => ?_, fun y hy => ?_, fun y c z e => ?_, I.ok.hd, I.ok.frames, .inl rfl, fun b hb => ⟨?_, fun y c e z => ?_⟩, I.bs, Nat.le_trans I.ok.bsz I.sz, fun b o e hb => ?_, fun b hb z => ?_, I.stack, I.stkFree⟩
    · have e1 : cenv.cells.lookup y = some c := e1
      have e2 : cenv.cells.lookup z = some c := e2
      rw [hcl] at e1 e2
      refine cells_inj (fun p hp => ?_) (fun y z c a b => I.ok.inj y z c (cm a).1 (cm b).1) (PySem.mem_of_lookup e1) (PySem.mem_of_lookup e2)
      rw [Heap.size_push]
      exact Nat.lt_succ_of_lt (cm (y := p.1) (c := p.2) hp).2
    · show ∃ c, cenv.cells.lookup y = some c
      have key : ∀ k, cenv.kindOf y = some k → (k = .cell ∨ k = .free) → ∃ c, cenv.cells.lookup y = some c := fun k hk hk' => by
        unfold Env.kindOf at hk
        rw [hsc] at hk
        obtain ⟨k', e, r⟩ := lookup_relS hk
        have : k' = .cell ∨ k' = .free := by
          rcases r with rfl | ⟨rfl, _⟩
          · exact hk'
          · exact .inr rfl
        rcases this with rfl | rfl
        · obtain ⟨c, hm⟩ := cells_has (n := (s.heap.push { cls := .type "dict", data := .dict #[] }).objs.size) (acc := cloFrom X.env.cells scope.names []) (PySem.mem_of_lookup e)
          obtain ⟨c', e'⟩ := mem_lookup hm
          exact ⟨c', by rw [hcl]; exact e'⟩
        · obtain ⟨c, h1, _⟩ := look e
          exact ⟨c, h1⟩
      rcases hy with hy | hy
      · exact key _ hy (.inl rfl)
      · exact key _ hy (.inr rfl)
    · have z : (scope.names.lookup y == some NameKind.cell) = true := z
      have z : scope.names.lookup y = some .cell := by simpa using z
      have e : cenv.cells.lookup y = some c := e
      rw [hcl] at e
      rcases cells_mem (PySem.mem_of_lookup e) with hm | ⟨_, h2, _⟩
      · rcases cloFrom_mem hm with hm | ⟨h1, _⟩
        · cases hm
        · have q := ok.uniq _ h1
          rw [z] at q; cases q
      · rw [Heap.size_push] at h2
        exact Nat.le_of_succ_le h2
    · show b ≠ cenv.locals
      rw [hL]; exact Nat.ne_of_lt (hfp b hb).2
    · have e : cenv.cells.lookup y = some c := e
      rcases mem e with ⟨h1, _⟩ | ⟨h1, _⟩
      · exact (hfp b hb).1.2.2.2.2.1 y c h1 z
      · have h2 : s.heap.objs.size + 1 ≤ b := by rw [← z]; exact h1
        exact absurd (Nat.lt_of_lt_of_le (hfp b hb).2 (Nat.le_of_succ_le h2)) (Nat.lt_irrefl _)
    · rcases (hfp b hb).1.2.2.2.1 with z | z
      · exact I.ok.noex b o e z
      · exact absurd (Nat.lt_of_lt_of_le (Heap.lt_size e) (Nat.le_trans I.ok.bsz z)) (Nat.lt_irrefl _)
    · rcases List.mem_cons.mp (I.stkSub b z) with z | z
      · exact (hfp b hb).1.2.1 z
      · exact (hfp b hb).1.2.2.1 z
  refine ⟨okB, rfl, I.bare, Un.kept kp, ⟨fun _ => none, ?_, fun i y av e1 e2 e3 => ?_⟩, fun y c e => ?_, ?_, fun y c e => ?_, fun p hp => ?_, I.hok.kept kp, by rw [wipe_length]; exact I.len⟩
  · show Heap.Ns _ cenv.locals _
    rw [hL]
    exact Heap.Ns.keeps (Heap.Ns.new ..) fun b o e => pushCells_keeps _ _ _ _ e
  · obtain ⟨e2, hne⟩ := wipe_some e2
    have hfr : scope.names.lookup y = some .free ∧ (cenv.kindOf y = some .cell ∨ cenv.kindOf y = some .free) := by
      have key : ∀ k, cenv.scope.names.lookup y = some k → k = .local ∨ k = .cell ∨ k = .free → scope.names.lookup y = some .free ∧ (cenv.kindOf y = some .cell ∨ cenv.kindOf y = some .free) := fun k hk hk' => by
        have hk0 := hk
        rw [hsc] at hk
        obtain ⟨k', e, r⟩ := lookup_relS hk
        have no : ¬ (k' = .local ∨ k' = .cell) := fun hh => by
          rcases ok.own _ (PySem.mem_of_lookup e) hh with e' | e'
          · obtain ⟨p, hp, hpy⟩ := List.mem_map.mp e'
            have e3 := ok.ix p hp
            have : p.1 = y := hpy
            rw [this] at e3
            exact hne (List.mem_map.mpr ⟨p, hp, nodup_ix hN e3 e1⟩)
          · exact e' (List.mem_of_getElem? e1)
        rcases r with rfl | ⟨rfl, rfl⟩
        · rcases hk' with rfl | rfl | rfl
          · exact absurd (.inl rfl) no
          · exact absurd (.inr rfl) no
          · exact ⟨e, .inr hk0⟩
        · exact ⟨e, .inl hk0⟩
      have e3 : Vis cenv.scope y := e3
      rcases e3 with e3 | e3 | e3
      · exact key _ e3 (.inl rfl)
      · exact key _ e3 (.inr (.inl rfl))
      · exact key _ e3 (.inr (.inr rfl))
    obtain ⟨m, hn, hl⟩ := I.loc
    have hvis : Vis X.env.scope y := (ok.free _ (PySem.mem_of_lookup hfr.1) rfl).elim (fun k => .inr (.inl k)) (fun k => .inr (.inr k))
    obtain ⟨w, r, q⟩ := hl i y av e1 e2 hvis
    refine ⟨w, r, .inr ⟨hfr.2, ?_⟩⟩
    obtain ⟨c, h1, h2⟩ := look hfr.1
    rcases q with ⟨k, _⟩ | ⟨_, c', e', z⟩
    · have k : X.env.scope.names.lookup y = some .local := k
      rcases ok.free _ (PySem.mem_of_lookup hfr.1) rfl with k' | k' <;> rw [show X.env.scope.names.lookup y = _ from k'] at k <;> cases k
    · rw [h2] at e'; cases e'
      exact ⟨c, h1, z.keeps kp⟩
  · have e : cenv.cells.lookup y = some c := e
    rcases mem e with ⟨h1, _⟩ | ⟨_, z⟩
    · obtain ⟨w, z⟩ := I.cell y c h1
      exact ⟨w, z.keeps kp⟩
    · exact ⟨_, z⟩
  · show H cenv.locals = none
    rw [hL]; exact I.hok.fresh (Nat.le_refl _)
  · have e : cenv.cells.lookup y = some c := e
    rcases mem e with ⟨h1, _⟩ | ⟨h1, _⟩
    · exact I.freeC y c h1
    · exact I.hok.fresh (Nat.le_of_succ_le h1)
  · exact absurd (show p ∈ ([] : List (Addr × Obj)) ++ [] from hp) (by simp)
theorem app_ok {E : Value → Shared → Prop} {D : Addr} {xs : List V} {y : V} {v : Value} {Q : Value → Shared → Prop} (I : Inv X pins σ H s) (hD : H D = some (.lst xs)) (hz : xs.length < sizeLine) (r : RelV y v)
    (h : ∀ s', Inv X pins σ (upd H D (.lst (xs ++ [y]))) s' → Q .none s') : wpAny (model X.prog X.w) X.A (call (.builtin "list.append") [.ref D, v]) Q E s := by
  obtain ⟨hz', its, n, ri, e⟩ := I.hok D _ hD
  have hl := ri.length
  refine append_at (hsz := by rw [List.size_toArray]; omega) e fun h' sb ho' => ?_
  refine h { s with heap := h' } (I.write (t' := s.toks) (by rw [hD]; trivial) (.inl rfl) (fun b u hb q => (sb.2 b hb).trans q) ⟨_, ho'⟩ ⟨by rw [List.length_append]; exact hz, its ++ [v], n + 1, ri.append (.cons r .nil), ?_⟩)
  rw [ho']
  simp
def PTs (X : Cx) (ifs : List Expr) (t : TT) : Prop :=
  ∀ (pins : List (Addr × Obj)) (s : Shared) (σ : St) (H : Hp) (Q : Bool → Hp → Prop), Inv X pins σ H s → t σ H Q →
    wpAny (model X.prog X.w) X.A (forIn ifs true fun c r => if r = true then do let ok ← isTrue c X.env (eval c X.env); pure (ForInStep.yield ok) else pure (ForInStep.yield r)) (TP X pins σ Q) X.xe s
def tYes : TT := fun _ H Q => Q true H
theorem pts_nil : PTs X [] tYes := fun _ _ _ H _ I h => wpAny_tests_nil ⟨H, I, h⟩
theorem pts_one {c : Expr} {t : TT} (h : PT X c t) : PTs X [c] t := fun pins s σ H Q I hw => wpAny_tests_one (h pins s σ H Q I hw)
end
theorem thnF {α : Type} {t : Sem α} {Q Q' : α → Shared → Prop} {M : Model} {A : Around} {E : Value → Shared → Prop} {s : Shared} (h : wpAny M A t Q (fun _ _ => False) s) (hQ : ∀ a s, Q a s → Q' a s) : wpAny M A t Q' E s := wpAny_mono h hQ fun _ _ z => False.elim z
theorem compLoop_any {prog : Program} {w : World} {A : Around} {R : Result → Shared → Prop} {s : Shared} {elt target iter : Expr} {ifs : List Expr} {scope : Scope} {pos : Pos} {it acc : Value} {env : Env} (I : Nat → Shared → Prop)
    (turn : ∀ n s, I n s → wpAny (model prog w) A (pyNext it) (fun r s₁ => match r with
      | none => R (.ok .next) s₁
      | some v => wpAny (model prog w) A (letOwnedTupleGo target it v) (fun _ s₁' => wpAny (model prog w) A (assign target env v) (fun _ s₂ =>
          wpAny (model prog w) A (forIn ifs true fun c r => if r = true then do let ok ← isTrue c env (eval c env); pure (ForInStep.yield ok) else pure (ForInStep.yield r)) (fun ok s₃ =>
            if ok = true then wpAny (model prog w) A (eval elt env) (fun x s₄ =>
              wpAny (model prog w) A (call (.builtin "list.append") [acc, x]) (fun _ s₅ => ∃ m, m < n ∧ I m s₅) (notedBy (model prog w) A env fun e s' => R (.error e) s') s₄) (notedBy (model prog w) A env fun e s' => R (.error e) s') s₃
            else ∃ m, m < n ∧ I m s₃) (notedBy (model prog w) A env fun e s' => R (.error e) s') s₂) (notedBy (model prog w) A env fun e s' => R (.error e) s') s₁') (notedBy (model prog w) A env fun e s' => R (.error e) s') s₁) (notedBy (model prog w) A env fun e s' => R (.error e) s') s)
    (n : Nat) (h : I n s) :
    codeAny (model prog w) A (.compLoop (.ListComp elt [⟨target, iter, ifs, 0⟩] scope pos) 0 it acc env) R s := by
  refine codeAny_loop rfl I (fun n s hI => ?_) n h
  show wpAny _ A ((compTurn (.ListComp elt [⟨target, iter, ifs, 0⟩] scope pos) 0 it acc env).onRaise (fun x => do noteFrame x env; theTreesLotGoes x)) _ _ s
  refine wpAny_noted ?_
  rw [compTurn_list]
  refine wpAny_bind (wpAny_standAt (wpAny_bind (wpAny_mono (turn n s hI) (fun r s₁ h₁ => ?_) fun _ _ h' => h')))
  cases r with
  | none => exact wpAny_pure h₁
  | some v =>
    refine wpAny_bind (wpAny_mono h₁ (fun _ s₁' h₁' => ?_) fun _ _ h' => h')
    refine wpAny_bind (wpAny_mono h₁' (fun _ s₂ h₂ => wpAny_bind (wpAny_mono h₂ (fun ok s₃ h₃ => ?_) fun _ _ h' => h')) fun _ _ h' => h')
    cases ok with
    | false => exact wpAny_pure ⟨rfl, h₃⟩
    | true =>
      exact wpAny_bind (wpAny_bind (wpAny_mono h₃ (fun x s₄ h₄ => wpAny_bind (wpAny_mono h₄ (fun _ s₅ h₅ => wpAny_pure (wpAny_pure ⟨rfl, h₅⟩)) fun _ _ h' => h')) fun _ _ h' => h'))
section
variable {X : Cx}
def tLc (wi : TI) (g : TG) (tt : TT) (te : TE) (vs : List Nat) : TE := fun σ H Q => wi σ H fun J H1 => ∀ D, H1 D = none → ∃ W : Nat → Nat → Hp → Prop, (∃ m, W 0 m (upd H1 D (.lst []))) ∧ ∀ i m H, W i m H →
  (J.stop i H ∧ Q (.ref D) H) ∨ (J.go i H ∧ ∃ Nx : Hp → Prop, (∀ H', Nx H' → ∃ m', m' < m ∧ W (i + 1) m' H') ∧ ∀ x H', J.yld i H x H' → g x (wipe σ vs) H' fun σ2 H2 => wipe σ2 vs = wipe σ vs ∧ tt σ2 H2 fun b H3 =>
    if b = true then te σ2 H3 fun y H4 => ∃ acc, H4 D = some (.lst acc) ∧ acc.length < sizeLine ∧ Nx (upd H4 D (.lst (acc ++ [y]))) else Nx H3)
theorem lc_core {pins : List (Addr × Obj)} {s : Shared} {σ : St} {H : Hp} {Q : VK} {elt tg iter : Expr} {ifs : List Expr} {scope : Scope} {own : List (Str × Nat)} {pos pos' : Pos} {wi : TI} {g : TG} {tt : TT} {te : TE} {use : Option (Value → Sem Unit)} {Qf : Value → Shared → Prop}
    (hc : X.calm = true) (hN : X.N.Nodup) (I : Inv X pins σ H s) (hi : PI X tg iter wi) (ok : BlkOk X.N X.env.scope scope own)
    (hg : ∀ (s : Shared) (H : Hp) (C : Addr) (cl : List (Str × Addr)) (fp : List Addr), PG (X.blk s H scope (compEnvC scope cl C X.env) fp) tg g) (ht : ∀ (s : Shared) (H : Hp) (C : Addr) (cl : List (Str × Addr)) (fp : List Addr), PTs (X.blk s H scope (compEnvC scope cl C X.env) fp) ifs tt)
    (he : ∀ (s : Shared) (H : Hp) (C : Addr) (cl : List (Str × Addr)) (fp : List Addr), PE (X.blk s H scope (compEnvC scope cl C X.env) fp) elt te) (hs : ∀ x, foldedSetIterable iter X.env x = pure x)
    (h : tLc wi g tt te (own.map (·.2)) σ H Q)
    (hRR : ∀ D C s' m H', Inv X pins σ H' s' → Q (.ref D) H' → s'.heap.Ns C m → FpOk X pins H' C → compPost (model X.prog X.w) X.A X.xe use Qf (.ref D) C (.ok .next) s') :
    wpAny (model X.prog X.w) X.A (comprehension (.ListComp elt [⟨tg, iter, ifs, 0⟩] scope pos) scope X.env pos' (newList []) false (eval iter X.env) use) Qf X.xe s := by
  have hfree : ∀ y ∈ scope.names, y.2 = .free → ∃ c, X.env.cells.lookup y.1 = some c := fun y hy e => by
    rcases ok.free y hy e with k | k
    · exact I.ok.has _ (.inl k)
    · exact I.ok.has _ (.inr k)
  refine wpAny_comprehension_free (use := use) rfl hs (closure_ok hfree) ok.kind (fun y hy e => by rw [ok.uniq y hy, e])
    (thn (hi pins s σ H _ I h) fun xv s1 hx => thn hx fun itv s2 h2 => ?_)
  obtain ⟨it, fp, tn, J, H2, e, I2, T, st2, f2, q⟩ := h2
  subst e
  refine wpAny_newObj_type (newEnv_comp ?_) (by show 0 ≤ sizeLine; decide)
  generalize hD : s2.heap.objs.size = D
  have hDn : H2 D = none := I2.hok.fresh (Nat.le_of_eq hD)
  obtain ⟨W, ⟨m0, w0⟩, turn⟩ := q D hDn
  -- the new list
  generalize hs3 : ({ s2 with heap := s2.heap.push { cls := .type "list", data := .seq ([] : List Value).toArray } } : Shared) = s3
  have I3 : Inv X pins σ (upd H2 D (.lst [])) s3 := by
    rw [← hs3]
    refine I2.laid (t' := s2.toks) (fun b o e => Heap.get?_push_of_some _ e) (Nat.le_of_eq hD) ⟨Nat.zero_le _, [], 0, .nil, ?_⟩
    rw [← hD]
    exact Heap.get?_push_size _ rfl
  have h3 : s3.heap = s2.heap.push { cls := .type "list", data := .seq ([] : List Value).toArray } := by rw [← hs3]
  have sz : ∀ b ∈ fp, b < s2.heap.objs.size := fun b hb => by
    obtain ⟨o, e, _⟩ := T.obj _ _ st2 b hb
    exact Heap.lt_size e
  have f3 : ∀ b ∈ fp, FpOk X pins (upd H2 D (.lst [])) b ∧ b < s3.heap.objs.size := fun b hb => by
    have hlt := sz b hb
    refine ⟨⟨?_, (f2 b hb).2⟩, by rw [h3, Heap.size_push]; exact Nat.lt_succ_of_lt hlt⟩
    rw [upd_ne (by rw [← hD]; exact Nat.ne_of_lt hlt)]
    exact (f2 b hb).1
  have st3 : tn 0 s3.heap := T.keep _ _ _ st2 fun b _ o e => by rw [h3]; exact Heap.get?_push_of_some _ e
  have I4 := block_start I3 ok hN f3
  have pg := hg s3 (upd H2 D (.lst [])) s3.heap.objs.size (cellsFrom (s3.heap.objs.size + 1) scope.names (cloFrom X.env.cells scope.names [])) fp
  have pt := ht s3 (upd H2 D (.lst [])) s3.heap.objs.size (cellsFrom (s3.heap.objs.size + 1) scope.names (cloFrom X.env.cells scope.names [])) fp
  have pe := he s3 (upd H2 D (.lst [])) s3.heap.objs.size (cellsFrom (s3.heap.objs.size + 1) scope.names (cloFrom X.env.cells scope.names [])) fp
  show codeAny _ _ (.compStart (.ListComp elt [⟨tg, iter, ifs, 0⟩] scope pos) 0 (.ref it) (.ref D) (compEnvC scope (cellsFrom (s3.heap.objs.size + 1) scope.names (cloFrom X.env.cells scope.names [])) s3.heap.objs.size X.env)) (compPost (model X.prog X.w) X.A X.xe use Qf (.ref D) s3.heap.objs.size) { s3 with heap := pushCells (s3.heap.push { cls := .type "dict", data := .dict #[] }) scope.names }
  have nfp : ∀ b ∈ fp, (upd H2 D (.lst [])) b = none := fun b hb => (f3 b hb).1.1
  generalize hce : compEnvC scope (cellsFrom (s3.heap.objs.size + 1) scope.names (cloFrom X.env.cells scope.names [])) s3.heap.objs.size X.env = ce at I4 pg pt pe ⊢
  have cL : ce.locals = s3.heap.objs.size := by subst hce; rfl
  generalize hH3 : upd H2 D (.lst []) = H3 at I3 I4 pg pt pe w0 nfp f3
  generalize hs4 : ({ s3 with heap := pushCells (s3.heap.push { cls := .type "dict", data := .dict #[] }) scope.names } : Shared) = s4 at I4 ⊢
  have st4 : tn 0 s4.heap := T.keep _ _ _ st3 fun b _ o e => by rw [← hs4]; exact pushCells_keeps _ _ _ _ (Heap.get?_push_of_some _ e)
  have stat : ∀ {σ' : St} {H' : Hp} {s' : Shared}, Inv (X.blk s3 H3 scope ce fp) [] σ' H' s' → (∀ b ∈ fp, H' b = none) → ∀ b ∈ fp, FpOk (X.blk s3 H3 scope ce fp) [] H' b := fun {σ' H' s'} I' hn b hb =>
    ⟨hn b hb, (I'.ok.exf b hb).1, I'.ok.exfs b hb, .inl hb, fun x c e => (I'.ok.exf b hb).2 x c e, fun p hp => absurd (show p ∈ ([] : List (Addr × Obj)) ++ [] from hp) (by simp)⟩
  have loop : codeAny (model X.prog X.w) X.A (.compLoop (.ListComp elt [⟨tg, iter, ifs, 0⟩] scope pos) 0 (.ref it) (.ref D) ce) (compPost (model X.prog X.w) X.A X.xe use Qf (.ref D) s3.heap.objs.size) s4 := by
    refine compLoop_any (fun n s' => ∃ i H', Inv (X.blk s3 H3 scope ce fp) [] (wipe σ (own.map (·.2))) H' s' ∧ tn i s'.heap ∧ (∀ b ∈ fp, H' b = none) ∧ W i n H') ?_ m0 ⟨0, H3, I4, st4, nfp, w0⟩
    rintro n s5 ⟨i, H5, I5, st5, n5, w5⟩
    rcases turn i n H5 w5 with ⟨stop, qq⟩ | ⟨go, Nx, hNx, step⟩
    · have td := T.done (X.blk s3 H3 scope ce fp) rfl rfl rfl hc i [] s5 _ H5 (fun _ _ => False) I5 (stat I5 n5) st5 stop
      refine thnF td fun r s6 ⟨hr, I6⟩ => ?_
      subst hr
      -- back in the def's context
      have I7 : Inv X pins σ H5 s6 := I3.call' (ch := fp) I6.os I6.base I6.hok I6.bare fun b hb => ⟨(f3 b hb).1.2.2.2.1, (f3 b hb).1.2.1, (f3 b hb).1.2.2.2.2.1, (f3 b hb).1.2.2.2.2.2⟩
      have nC : H5 s3.heap.objs.size = none := by
        have z : H5 ce.locals = none := I6.free
        rw [cL] at z
        exact z
      obtain ⟨m, hn, _⟩ := I6.loc
      have hn : s6.heap.Ns ce.locals m := hn
      rw [cL] at hn
      exact hRR D s3.heap.objs.size s6 m H5 I7 qq hn (I3.fpOk (Nat.le_refl _) nC)
    · have ti := T.item (X.blk s3 H3 scope ce fp) rfl rfl rfl hc i [] s5 _ H5 (fun _ _ => False) I5 (stat I5 n5) st5 go
      refine thnF ti fun r s6 ⟨u, hr, h6⟩ => ?_
      subst hr
      refine thnF h6 fun _ s7 ⟨x, H7, I7, r7, y7, st7, n7⟩ => ?_
      have I7' := I7.pinned (stat I7 n7) (T.obj _ _ st7)
      refine thnF (pg _ s7 _ H7 x u _ I7' r7 (step x H7 y7)) fun _ s8 ⟨σ8, H8, I8, hw8, q8⟩ => ?_
      refine thnF (pt _ s8 σ8 H8 _ I8 q8) fun b s9 ⟨H9, I9, q9⟩ => ?_
      -- the turn's end
      have fin : ∀ {s' : Shared} {H' : Hp}, Inv (X.blk s3 H3 scope ce fp) ([] ++ pinsAt fp s7.heap) σ8 H' s' → Nx H' → ∃ m, m < n ∧ ∃ i H', Inv (X.blk s3 H3 scope ce fp) [] (wipe σ (own.map (·.2))) H' s' ∧ tn i s'.heap ∧ (∀ b ∈ fp, H' b = none) ∧ W i m H' := fun {s' H'} I' nx => by
        obtain ⟨m', hm, w'⟩ := hNx H' nx
        have pin' : ∀ b ∈ fp, ∀ o, s7.heap.get? b = some o → s'.heap.get? b = some o ∧ H' b = none := fun b hb o e =>
          let z := I'.pin (b, o) (List.mem_append_right _ (List.mem_append_right _ (mem_pinsAt hb e)))
          ⟨z.1, z.2.1⟩
        have hl : (wipe σ (own.map (·.2))).length = σ8.length := by rw [← hw8, wipe_length]
        refine ⟨m', hm, i + 1, H', (I'.unpinned (pins := [])).weak hl (fun j v e => ?_), T.keep _ _ _ st7 fun b hb o e => (pin' b hb o e).1, fun b hb => ?_, w'⟩
        · rw [← hw8] at e
          exact (wipe_some e).1
        · obtain ⟨o, e, _⟩ := T.obj _ _ st7 b hb
          exact (pin' b hb o e).2
      cases b with
      | false =>
        simp only [Bool.false_eq_true, if_false] at q9 ⊢
        exact fin I9 q9
      | true =>
        simp only [if_true] at q9 ⊢
        refine thnF (pe _ s9 σ8 H9 _ I9 q9) fun z s10 ⟨yv, H10, I10, r10, acc, hD10, hz10, nx⟩ => ?_
        exact app_ok (X := X.blk s3 H3 scope ce fp) I10 hD10 hz10 r10 fun s11 I11 => fin I11 nx
  exact codeAny_compStart_list loop (T.self X.A 0 _ _ _ st4 loop)
theorem pe_lc {elt tg iter : Expr} {ifs : List Expr} {scope : Scope} {own : List (Str × Nat)} {pos : Pos} {wi : TI} {g : TG} {tt : TT} {te : TE} (hc : X.calm = true) (hN : X.N.Nodup) (hi : PI X tg iter wi) (ok : BlkOk X.N X.env.scope scope own)
    (hg : ∀ (s : Shared) (H : Hp) (C : Addr) (cl : List (Str × Addr)) (fp : List Addr), PG (X.blk s H scope (compEnvC scope cl C X.env) fp) tg g) (ht : ∀ (s : Shared) (H : Hp) (C : Addr) (cl : List (Str × Addr)) (fp : List Addr), PTs (X.blk s H scope (compEnvC scope cl C X.env) fp) ifs tt)
    (he : ∀ (s : Shared) (H : Hp) (C : Addr) (cl : List (Str × Addr)) (fp : List Addr), PE (X.blk s H scope (compEnvC scope cl C X.env) fp) elt te) (hs : ∀ x, foldedSetIterable iter X.env x = pure x := by intro _; rfl) :
    PE X (.ListComp elt [⟨tg, iter, ifs, 0⟩] scope pos) (tLc wi g tt te (own.map (·.2))) := by
  intro pins s σ H Q I h
  rw [eval_ListComp]
  refine lc_core hc hN I hi ok hg ht he hs h fun D C s' m H' I' q hn f => ⟨m, hn, fun h'' sb => ?_⟩
  obtain ⟨f0, f1, f2, f3, f4, f5⟩ := f
  exact ⟨.ref D, H', I'.turned (t' := s'.toks) (fun b o hb e => (sb.2 b hb).trans e) f0 f1 f3 f4 f5, rfl, q⟩
theorem ps_setLc {i : Nat} {y : Str} {py : Pos} {elt tg iter : Expr} {ifs : List Expr} {scope : Scope} {own : List (Str × Nat)} {pos spos : Pos} {wi : TI} {g : TG} {tt : TT} {te : TE} (hc : X.calm = true) (hN : X.N.Nodup) (hy : X.N[i]? = some y) (hyl : X.env.scope.names.lookup y = some .local)
    (hsw : swapsWith (.ListComp elt [⟨tg, iter, ifs, 0⟩] scope pos) (some (.Name y py)) spos.line X.env = pure true) (hi : PI X tg iter wi) (ok : BlkOk X.N X.env.scope scope own)
    (hg : ∀ (s : Shared) (H : Hp) (C : Addr) (cl : List (Str × Addr)) (fp : List Addr), PG (X.blk s H scope (compEnvC scope cl C X.env) fp) tg g) (ht : ∀ (s : Shared) (H : Hp) (C : Addr) (cl : List (Str × Addr)) (fp : List Addr), PTs (X.blk s H scope (compEnvC scope cl C X.env) fp) ifs tt)
    (he : ∀ (s : Shared) (H : Hp) (C : Addr) (cl : List (Str × Addr)) (fp : List Addr), PE (X.blk s H scope (compEnvC scope cl C X.env) fp) elt te) (hs : ∀ x, foldedSetIterable iter X.env x = pure x := by intro _; rfl) :
    PS X (.Assign [.Name y py] (.ListComp elt [⟨tg, iter, ifs, 0⟩] scope pos) spos) (tAsg (tLc wi g tt te (own.map (·.2))) (gName i)) := by
  intro pins s σ H D I h
  rw [exec_Assign_Name_used _ _ _ _ hsw]
  refine wpAny_bind (wpAny_standAt (wpAny_bind ?_))
  show wpAny _ X.A (do let _ ← comprehension (.ListComp elt [⟨tg, iter, ifs, 0⟩] scope pos) scope X.env (firstIterPos [⟨tg, iter, ifs, 0⟩] pos) (newList []) false (eval iter X.env) (some (assign (.Name y py) X.env))) _ _ s
  have h : tLc wi g tt te (own.map (·.2)) σ H (fun x H1 => gName i x σ H1 D.nx) := h
  refine wpAny_bind (thn (lc_core (Qf := fun _ s' => SP X pins D .next s') hc hN I hi ok hg ht he hs h fun L C s' m H' I' q hn f => ?_) fun _ s' hq => wpAny_pure (wpAny_pure hq))
  show wpAny _ _ (assign (.Name y py) X.env (.ref L)) _ _ _
  refine wpAny_assign_Name (store_ok2 (v := V.ref L) I' hN hy (.inl hyl) rfl (fun s2 I2 ⟨a, sb, ha⟩ => ?_) (.inr hyl))
  obtain ⟨f0, f1, f2, f3, f4, f5⟩ := f
  have haC : C ≠ a := by
    rcases ha with z | z
    · rw [z]; exact f1
    · exact fun e => f4 y a z e.symm
  refine ⟨m, hn.sameBut sb haC, fun h3 sb3 => ?_⟩
  exact ⟨_, H', I2.turned (t' := s2.toks) (fun b o hb e => (sb3.2 b hb).trans e) f0 f1 f3 f4 f5, q⟩
theorem sw_true {elt : Expr} {gs : List Comprehension} {scope : Scope} {pos py : Pos} {y : Str} {l : Nat} {env : Env} (hk : env.scope.kind = .function) (hy : env.scope.names.lookup y = some .local) (hl : (py.line == pos.line) = true)
    (ha : (scope.names.any fun (n, k) => n == y && (k == .local || k == .cell)) = false) : swapsWith (.ListComp elt gs scope pos) (some (.Name y py)) l env = pure true := by
  have ky : env.kindOf y = some .local := hy
  have hb : env.blockKind = .function := by unfold Env.blockKind; rw [hk]; rfl
  unfold swapsWith
  simp only [hb, ky, ha, Expr.pos, hl]
  rfl
end
theorem lc_range {lo : Int} {n : Nat} {g : TG} {tt : TT} {te : TE} {vs : List Nat} {σ : St} {H1 : Hp} {D : Addr} {Qd : Hp → Prop} (Pv : Nat → Hp → Prop) (h0 : Pv 0 (upd H1 D (.lst [])))
    (hs : ∀ i H, i < n → Pv i H → g (.int (lo + i)) (wipe σ vs) H fun σ2 H2 => wipe σ2 vs = wipe σ vs ∧ tt σ2 H2 fun b H3 =>
      if b = true then te σ2 H3 fun y H4 => ∃ acc, H4 D = some (.lst acc) ∧ acc.length < sizeLine ∧ Pv (i + 1) (upd H4 D (.lst (acc ++ [y]))) else Pv (i + 1) H3) (hd : ∀ H, Pv n H → Qd H) :
    ∃ W : Nat → Nat → Hp → Prop, (∃ m, W 0 m (upd H1 D (.lst []))) ∧ ∀ i m H, W i m H →
      ((Itr lo n).stop i H ∧ Qd H) ∨ ((Itr lo n).go i H ∧ ∃ Nx : Hp → Prop, (∀ H', Nx H' → ∃ m', m' < m ∧ W (i + 1) m' H') ∧ ∀ x H', (Itr lo n).yld i H x H' → g x (wipe σ vs) H' fun σ2 H2 => wipe σ2 vs = wipe σ vs ∧ tt σ2 H2 fun b H3 =>
        if b = true then te σ2 H3 fun y H4 => ∃ acc, H4 D = some (.lst acc) ∧ acc.length < sizeLine ∧ Nx (upd H4 D (.lst (acc ++ [y]))) else Nx H3) := by
  refine ⟨fun i m H => m = n - i ∧ i ≤ n ∧ Pv i H, ⟨n, by simp, Nat.zero_le _, h0⟩, ?_⟩
  rintro i m H ⟨rfl, hi, p⟩
  by_cases hlt : i < n
  · refine .inr ⟨hlt, Pv (i + 1), fun H' p' => ⟨n - (i + 1), by omega, rfl, hlt, p'⟩, fun x H' y => ?_⟩
    obtain ⟨e, y⟩ := y
    subst e y
    exact hs i _ hlt p
  · have e : i = n := by omega
    subst e
    exact .inl ⟨Nat.le_refl _, hd H p⟩
theorem lc_list {K : PySem.W.Frag} {a : Addr} {xs : List V} {g : TG} {tt : TT} {te : TE} {vs : List Nat} {σ : St} {H1 : Hp} {D : Addr} {Qd : Hp → Prop} (Pv : Nat → Hp → Prop) (h0 : Pv 0 (upd H1 D (.lst []))) (hl : ∀ i H, i ≤ xs.length → Pv i H → SqL K H a xs)
    (hs : ∀ i x H, xs[i]? = some x → Pv i H → g x (wipe σ vs) H fun σ2 H2 => wipe σ2 vs = wipe σ vs ∧ tt σ2 H2 fun b H3 =>
      if b = true then te σ2 H3 fun y H4 => ∃ acc, H4 D = some (.lst acc) ∧ acc.length < sizeLine ∧ Pv (i + 1) (upd H4 D (.lst (acc ++ [y]))) else Pv (i + 1) H3) (hd : ∀ H, Pv xs.length H → Qd H) :
    ∃ W : Nat → Nat → Hp → Prop, (∃ m, W 0 m (upd H1 D (.lst []))) ∧ ∀ i m H, W i m H →
      ((Itl K a).stop i H ∧ Qd H) ∨ ((Itl K a).go i H ∧ ∃ Nx : Hp → Prop, (∀ H', Nx H' → ∃ m', m' < m ∧ W (i + 1) m' H') ∧ ∀ x H', (Itl K a).yld i H x H' → g x (wipe σ vs) H' fun σ2 H2 => wipe σ2 vs = wipe σ vs ∧ tt σ2 H2 fun b H3 =>
        if b = true then te σ2 H3 fun y H4 => ∃ acc, H4 D = some (.lst acc) ∧ acc.length < sizeLine ∧ Nx (upd H4 D (.lst (acc ++ [y]))) else Nx H3) := by
  refine ⟨fun i m H => m = xs.length - i ∧ i ≤ xs.length ∧ Pv i H, ⟨xs.length, by simp, Nat.zero_le _, h0⟩, ?_⟩
  rintro i m H ⟨rfl, hi, p⟩
  have q := hl i H hi p
  by_cases hlt : i < xs.length
  · refine .inr ⟨⟨xs, xs[i], q, by simp [hlt]⟩, Pv (i + 1), fun H' p' => ⟨xs.length - (i + 1), by omega, rfl, hlt, p'⟩, fun x H' y => ?_⟩
    obtain ⟨e, y⟩ := y
    subst e
    exact hs i x _ (y xs q) p
  · have e : i = xs.length := by omega
    subst e
    exact .inl ⟨⟨xs, q, Nat.le_refl _⟩, hd H p⟩
def blkC (N : List Str) (sc scope : Scope) (own : List (Str × Nat)) : Bool :=
  (match scope.kind with | .function => true | _ => false) && (scope.names.all fun y => decide (scope.names.lookup y.1 = some y.2)) && (own.all fun p => decide (N[p.2]? = some p.1)) &&
    (scope.names.all fun y => match y.2 with
      | .free => (match sc.names.lookup y.1 with | some .cell => true | some .free => true | _ => false)
      | .local => decide (y.1 ∈ own.map (·.1)) || decide (y.1 ∉ N)
      | .cell => decide (y.1 ∈ own.map (·.1)) || decide (y.1 ∉ N)
      | _ => true)
theorem blkOk_by {N : List Str} {sc scope : Scope} {own : List (Str × Nat)} (h : blkC N sc scope own = true) : BlkOk N sc scope own := by
  unfold blkC at h
  simp only [Bool.and_eq_true, List.all_eq_true, decide_eq_true_eq] at h
  obtain ⟨⟨⟨h1, h2⟩, h3⟩, h4⟩ := h
  refine ⟨?_, h2, h3, fun y hy e => ?_, fun y hy e => ?_⟩
  · split at h1
    · assumption
    · cases h1
  · have q := h4 y hy
    simp only [e] at q
    split at q <;> first | exact .inl (by assumption) | exact .inr (by assumption) | cases q
  · have q := h4 y hy
    rcases e with e | e <;> (simp only [e, Bool.or_eq_true, decide_eq_true_eq] at q; exact q)
end L2
namespace L2
open PySem PySem.Spec PyProof.Rows
section
variable {prog : Program} {w : World} {A : Around} {R : Result → Shared → Prop} {s : Shared} {elt t0 i0 t1 i1 : Expr} {ifs0 ifs1 : List Expr} {scope : Scope} {pos : Pos} {it acc : Value} {env : Env}
end
section
variable {X : Cx}
end
end L2
namespace L2
open PySem PySem.Spec PyProof.Rows
section
variable {κ : Type} [DecidableEq κ]
def valV (kvs : List (κ × V)) (k : κ) : Option V := (kvs.find? fun kv => decide (kv.1 = k)).map (·.2)
def putK (kvs : List (κ × V)) (k : κ) (v : V) : List (κ × V) :=
  if (kvs.any fun kv => decide (kv.1 = k)) = true then kvs.map (fun kv => if kv.1 = k then (kv.1, v) else kv) else kvs ++ [(k, v)]
theorem valV_pos {p : κ × V} {r : List (κ × V)} {k : κ} (e : p.1 = k) : valV (p :: r) k = some p.2 := by simp [valV, List.find?_cons, e]
theorem valV_neg {p : κ × V} {r : List (κ × V)} {k : κ} (e : ¬ p.1 = k) : valV (p :: r) k = valV r k := by simp [valV, List.find?_cons, e]
theorem valV_any (k : κ) : ∀ kvs : List (κ × V), (kvs.any fun kv => decide (kv.1 = k)) = (valV kvs k).isSome
  | [] => rfl
  | p :: r => by
    rw [List.any_cons]
    by_cases e : p.1 = k
    · simp only [valV_pos e, decide_eq_true e, Bool.true_or, Option.isSome_some]
    · rw [valV_neg e, decide_eq_false e, Bool.false_or]; exact valV_any k r
theorem length_putK (kvs : List (κ × V)) (k : κ) (v : V) : (putK kvs k v).length ≤ kvs.length + 1 := by
  unfold putK
  split
  · rw [List.length_map]; omega
  · rw [List.length_append, List.length_cons, List.length_nil]; omega
theorem RelO.isSome_eq {o : Option V} {u : Option Value} (r : RelO o u) : o.isSome = u.isSome := by
  cases o with
  | none => cases u with
    | none => rfl
    | some _ => exact (show False from r).elim
  | some _ => cases u with
    | none => exact (show False from r).elim
    | some _ => rfl
theorem RelO.getD {o : Option V} {u : Option Value} {d : V} {d' : Value} (r : RelO o u) (rd : RelV d d') : RelV (o.getD d) (u.getD d') := by
  cases o with
  | none => cases u with
    | none => exact rd
    | some _ => exact (show False from r).elim
  | some _ => cases u with
    | none => exact (show False from r).elim
    | some _ => exact r
theorem KV.val {kvs : List (κ × V)} {vs : List (κ × Value)} (r : KV kvs vs) (k : κ) : RelO (valV kvs k) (valueAt vs k) := by
  unfold KV at r
  induction r with
  | nil => exact True.intro
  | @cons p q ps qs h t ih =>
    obtain ⟨h1, h2⟩ := h
    by_cases e : p.1 = k
    · have e' : q.1 = k := h1.symm.trans e
      have b : valueAt (q :: qs) k = some q.2 := by simp [valueAt, List.find?_cons, e']
      rw [valV_pos e, b]; exact h2
    · have e' : ¬ q.1 = k := fun z => e (h1.trans z)
      have b : valueAt (q :: qs) k = valueAt qs k := by simp [valueAt, List.find?_cons, e']
      rw [valV_neg e, b]; exact ih
theorem KV.any {kvs : List (κ × V)} {vs : List (κ × Value)} (r : KV kvs vs) (k : κ) : (kvs.any fun kv => decide (kv.1 = k)) = vs.any fun kv => decide (kv.1 = k) := by
  unfold KV at r
  induction r with
  | nil => rfl
  | cons h t ih => rw [List.any_cons, List.any_cons, ih, h.1]
theorem KV.repl {kvs : List (κ × V)} {vs : List (κ × Value)} (r : KV kvs vs) (k : κ) {y : V} {u : Value} (ry : RelV y u) :
    KV (kvs.map fun kv => if kv.1 = k then (kv.1, y) else kv) (vs.map fun kv => if kv.1 = k then (kv.1, u) else kv) := by
  unfold KV at r ⊢
  induction r with
  | nil => exact .nil
  | @cons p q ps qs h t ih =>
    rw [List.map_cons, List.map_cons]
    refine .cons ?_ ih
    obtain ⟨h1, h2⟩ := h
    by_cases e : p.1 = k
    · rw [if_pos e, if_pos (h1.symm.trans e)]; exact ⟨h1, ry⟩
    · rw [if_neg e, if_neg (fun z => e (h1.trans z))]; exact ⟨h1, h2⟩
theorem KV.put {kvs : List (κ × V)} {vs : List (κ × Value)} (r : KV kvs vs) (k : κ) {y : V} {u : Value} (ry : RelV y u) : KV (putK kvs k y) (stored vs k u) := by
  unfold putK stored
  rw [r.any k]
  by_cases e : (vs.any fun kv => decide (kv.1 = k)) = true
  · rw [if_pos e, if_pos e]; exact r.repl k ry
  · rw [if_neg e, if_neg e]; exact Paired.snoc r ⟨rfl, ry⟩
theorem KV.length {kvs : List (κ × V)} {vs : List (κ × Value)} (r : KV kvs vs) : kvs.length = vs.length := Paired.length r
end
theorem kV_is {P : Program} {w : World} {k : Key} {u : Value} (r : RelV (kV k) u) : (mixKind P w).is k u = true := by
  cases k with
  | inl i => obtain ⟨t, e⟩ := (show ∃ t, u = Value.int i t from r); subst e; exact mixKind_int P w i t
  | inr x => obtain ⟨t, e⟩ := (show ∃ t, u = Value.str x t from r); subst e; exact mixKind_str P w x t
theorem items_are {P : Program} {w : World} : ∀ {ks : List Key} {us : List Value}, Vals (ks.map kV) us → ItemsAre (mixKind P w) ks us
  | [], _, r => by rw [List.map_nil] at r; cases r; exact .nil
  | k :: ks, _, r => by
    rw [List.map_cons] at r
    cases r with
    | cons h t => exact .cons (kV_is h) (items_are t)
abbrev KT (H : Hp) : List (List Key × V) → List (List Key × Addr × Value) → Prop := Paired fun p q => p.1 = q.1 ∧ H q.2.1 = some (.tup (p.1.map kV)) ∧ RelV p.2 q.2.2
theorem KT.val {H : Hp} {kvs : List (List Key × V)} {xs : List (List Key × Addr × Value)} (r : KT H kvs xs) (k : List Key) : RelO (valV kvs k) ((atKey xs k).map (·.2)) := by
  induction r with
  | nil => exact True.intro
  | @cons p q ps qs h t ih =>
    obtain ⟨h1, _, h2⟩ := h
    by_cases e : p.1 = k
    · have e' : q.1 = k := h1.symm.trans e
      have b : atKey (q :: qs) k = some q.2 := by simp [atKey, List.find?_cons, e']
      rw [valV_pos e, b]; exact h2
    · have e' : ¬ q.1 = k := fun z => e (h1.trans z)
      have b : atKey (q :: qs) k = atKey qs k := by simp [atKey, List.find?_cons, e']
      rw [valV_neg e, b]; exact ih
theorem KT.repl {H : Hp} {kvs : List (List Key × V)} {xs : List (List Key × Addr × Value)} (r : KT H kvs xs) (k : List Key) {y : V} {u : Value} (ry : RelV y u) :
    KT H (kvs.map fun kv => if kv.1 = k then (kv.1, y) else kv) (xs.map (putAt k u)) := by
  induction r with
  | nil => exact .nil
  | @cons p q ps qs h t ih =>
    rw [List.map_cons, List.map_cons]
    refine .cons ?_ ih
    obtain ⟨h1, h2, h3⟩ := h
    unfold putAt
    by_cases e : p.1 = k
    · rw [if_pos e, if_pos (h1.symm.trans e)]; exact ⟨h1, h2, ry⟩
    · rw [if_neg e, if_neg (fun z => e (h1.trans z))]; exact ⟨h1, h2, h3⟩
theorem KT.put {H : Hp} {kvs : List (List Key × V)} {xs : List (List Key × Addr × Value)} (r : KT H kvs xs) (k : List Key) {b : Addr} {y : V} {u : Value} (hb : H b = some (.tup (k.map kV))) (ry : RelV y u) :
    KT H (putK kvs k y) (storedH xs k b u) := by
  have e : (kvs.any fun kv => decide (kv.1 = k)) = (atKey xs k).isSome := by
    rw [valV_any, (r.val k).isSome_eq, Option.isSome_map]
  unfold putK storedH
  rw [e]
  by_cases q : (atKey xs k).isSome = true
  · rw [if_pos q, if_pos q]; exact r.repl k ry
  · rw [if_neg q, if_neg q]; exact Paired.snoc r ⟨rfl, hb, ry⟩
theorem KT.keeps {H H' : Hp} {kvs : List (List Key × V)} {xs : List (List Key × Addr × Value)} (r : KT H kvs xs) (ht : ∀ b ys, H b = some (.tup ys) → H' b = some (.tup ys)) : KT H' kvs xs :=
  Paired.mapP r fun _ _ z => ⟨z.1, ht _ _ z.2.1, z.2.2⟩
section
variable {P : Program} {w : World} {H : Hp} {h : Heap} {a : Addr}
theorem rd_of {u : HO} (ok : HOk P w H h) (e : Rd H a u) : ObjOk P w H h a u := e.ok ok
theorem dk_rd {kvs : List (Key × V)} (ok : HOk P w H h) (e : Rd H a (.dK kvs)) : kvs.length ≤ sizeLine ∧ (a == sysModules) = false ∧ ∃ vs, KV kvs vs ∧ h.DictOf (mixKind P w) a vs :=
  show ObjOk P w H h a (.dK kvs) from rd_of ok e
theorem dk_of {kvs : List (Key × V)} (ok : HOk P w H h) (e : H a = some (.dK kvs)) : kvs.length ≤ sizeLine ∧ (a == sysModules) = false ∧ ∃ vs, KV kvs vs ∧ h.DictOf (mixKind P w) a vs := dk_rd ok (.inl e)
theorem key_of {ks : List Key} (ok : HOk P w H h) (e : H a = some (.tup (ks.map kV))) : (tupleKind (mixKind P w)).is h ks a := by
  obtain ⟨_, its, r, o, h1, h2, n, h3⟩ := (show ObjOk P w H h a (.tup (ks.map kV)) from ok a _ e)
  exact ⟨o, its.toArray, n, h1, h2, h3, by simpa using items_are r⟩
theorem dt_rd {kvs : List (List Key × V)} (ok : HOk P w H h) (e : Rd H a (.dT kvs)) : kvs.length ≤ sizeLine ∧ (a == sysModules) = false ∧
    ∃ xs, KT H kvs xs ∧ h.DictOfH (tupleKind (mixKind P w)) a xs := by
  obtain ⟨z, y, xs, r, o, es, ep, h1, h2, h3, h4, h5⟩ := (show ObjOk P w H h a (.dT kvs) from rd_of ok e)
  refine ⟨z, y, xs, r, o, es, ep, h1, h2, h3, h4, fun x hx => ?_, h5⟩
  have all : ∀ {l : List (List Key × V)} {m : List (List Key × Addr × Value)}, KT H l m → ∀ x ∈ m, (tupleKind (mixKind P w)).is h x.1 x.2.1 := by
    intro l m q
    induction q with
    | nil => intro x hx; exact nomatch hx
    | @cons p q ps qs hq t ih =>
      intro x hx
      rcases List.mem_cons.mp hx with e | hx
      · subst e
        exact key_of ok (by rw [← hq.1]; exact hq.2.1)
      · exact ih x hx
  exact all r x hx
theorem dt_of {kvs : List (List Key × V)} (ok : HOk P w H h) (e : H a = some (.dT kvs)) : kvs.length ≤ sizeLine ∧ (a == sysModules) = false ∧
    ∃ xs, KT H kvs xs ∧ h.DictOfH (tupleKind (mixKind P w)) a xs := dt_rd ok (.inl e)
end
def DGet (H : Hp) (a : Addr) (y : V) (r : Option V) : Prop :=
  (∃ kvs k, Rd H a (.dK kvs) ∧ y = kV k ∧ r = valV kvs k) ∨ ∃ kvs k b, Rd H a (.dT kvs) ∧ y = .ref b ∧ H b = some (.tup (k.map kV)) ∧ r = valV kvs k
def DPut (H : Hp) (a : Addr) (y v : V) (H' : Hp) : Prop :=
  (∃ kvs k, H a = some (.dK kvs) ∧ y = kV k ∧ kvs.length < sizeLine ∧ H' = upd H a (.dK (putK kvs k v))) ∨
  ∃ kvs k b, H a = some (.dT kvs) ∧ y = .ref b ∧ H b = some (.tup (k.map kV)) ∧ kvs.length < sizeLine ∧ H' = upd H a (.dT (putK kvs k v))
theorem DGet.t {H : Hp} {a b : Addr} {kvs : List (List Key × V)} {k : List Key} (e : H a = some (.dT kvs)) (eb : H b = some (.tup (k.map kV))) : DGet H a (.ref b) (valV kvs k) := .inr ⟨kvs, k, b, .inl e, rfl, eb, rfl⟩
theorem DPut.t {H : Hp} {a b : Addr} {kvs : List (List Key × V)} {k : List Key} {v : V} (e : H a = some (.dT kvs)) (eb : H b = some (.tup (k.map kV))) (hl : kvs.length < sizeLine) :
    DPut H a (.ref b) v (upd H a (.dT (putK kvs k v))) := .inr ⟨kvs, k, b, e, rfl, eb, hl, rfl⟩
section
variable {X : Cx} {pins : List (Addr × Obj)} {σ : St} {H : Hp} {s : Shared} {a : Addr} {y v : V} {u r : Value} {o : Option V} {A : Around} {E : Value → Shared → Prop}
theorem Inv.big (I : Inv X pins σ H s) : sysModules < s.heap.objs.size := by
  have h : mainGlobals < s.heap.objs.size := (I.mod.glob.keeps I.bk).lt
  exact Nat.lt_trans (by decide) h
theorem d_getItem {Q : Value → Shared → Prop} (hu : A.units + 1 < cLine) (I : Inv X pins σ H s) (g : DGet H a y (some v)) (ry : RelV y u) (h : ∀ w' s', Inv X pins σ H s' → RelV v w' → Q w' s') :
    wpAny (model X.prog X.w) A (getItem (.ref a) u) Q E s := by
  rcases g with ⟨kvs, k, e, ey, l⟩ | ⟨kvs, k, b, e, ey, eb, l⟩
  · subst ey
    obtain ⟨z, hd, vs, rel, dd⟩ := dk_rd I.hok e
    obtain ⟨w', hw, rw'⟩ := RelO.some_of (v := v) (o := valueAt vs k) (by rw [l]; exact rel.val k)
    exact wpAny_getItem_of (kV_is ry) dd.mapOf hw (h w' _ (I.tok _) rw')
  · subst ey
    cases (show u = Value.ref b from ry)
    obtain ⟨z, hd, xs, rel, dd⟩ := dt_rd I.hok e
    obtain ⟨w', hw, rw'⟩ := RelO.some_of (v := v) (o := (atKey xs k).map (·.2)) (by rw [l]; exact rel.val k)
    obtain ⟨p, hp, hp2⟩ := Option.map_eq_some_iff.mp hw
    refine wpAny_getItem_heap (tupleKind_room_in1 hu) (key_of I.hok eb) dd hp ?_
    rw [hp2]
    exact h w' _ (I.tok _) rw'
theorem d_write {h' : Heap} {t' : Nat} {ob : HO} (I : Inv X pins σ H s) (mu : Mut (H a)) (hs : Heap.SameBut a s.heap h') (he : ∃ q, h'.get? a = some q) (new : ObjOk X.prog X.w (upd H a ob) h' a ob) :
    Inv X pins σ (upd H a ob) { s with heap := h', toks := t' } :=
  I.write (x := a) (e := a) mu (.inl rfl) (fun b q hb z => (hs.2 b hb).trans z) he new
theorem dk_new {P : Program} {w : World} {H' : Hp} {h' : Heap} {kvs : List (Key × V)} {vs : List (Key × Value)} (z : kvs.length ≤ sizeLine) (hd : (a == sysModules) = false) (rel : KV kvs vs) (dd : h'.DictOf (mixKind P w) a vs) :
    ObjOk P w H' h' a (.dK kvs) := ⟨z, hd, vs, rel, dd⟩
theorem d_setItem {H' : Hp} {Q : Unit → Shared → Prop} (hu : A.units + 1 < cLine) (I : Inv X pins σ H s) (g : DPut H a y v H') (ry : RelV y u) (rv : RelV v r) (h : ∀ s', Inv X pins σ H' s' → Q () s') :
    wpAny (model X.prog X.w) A (setItem (.ref a) u r) Q E s := by
  rcases g with ⟨kvs, k, e, ey, l, eH⟩ | ⟨kvs, k, b, e, ey, eb, l, eH⟩
  · subst ey eH
    obtain ⟨z, hd, vs, rel, dd⟩ := dk_of I.hok e
    have hz : vs.length ≤ sizeLine := by rw [← rel.length]; exact z
    have hl : (putK kvs k v).length ≤ sizeLine := by have := length_putK kvs k v; omega
    refine wpAny_setItem_pairs (hsz := hz) (kV_is ry) dd fun h' dd' hs => h _ ?_
    have he : ∃ q, h'.get? a = some q := let ⟨q, _, _, hq, _⟩ := dd'; ⟨q, hq⟩
    exact d_write I (by rw [e]; exact True.intro) hs he (dk_new hl hd (rel.put k rv) dd')
  · subst ey eH
    cases (show u = Value.ref b from ry)
    obtain ⟨z, hd, xs, rel, dd⟩ := dt_of I.hok e
    have hz : xs.length ≤ sizeLine := by rw [← Paired.length rel]; exact z
    have hl : (putK kvs k v).length ≤ sizeLine := by have := length_putK kvs k v; omega
    refine wpAny_setItem_heap (hsz := hz) (tupleKind_room_in1 hu) (key_of I.hok eb) dd fun h' dd' hs => h _ ?_
    obtain ⟨q, es, ep, hq, h2, h3, h4, _, h5⟩ := dd'
    refine d_write I (by rw [e]; exact True.intro) hs ⟨q, hq⟩ ⟨hl, hd, _, (rel.put k eb rv).keeps fun c ys ec => ?_, q, es, ep, hq, h2, h3, h4, h5⟩
    rw [upd_ne (ne_of ec e (fun z => nomatch z))]
    exact ec
end
section
variable {X : Cx} {pins : List (Addr × Obj)} {σ : St} {H : Hp} {s : Shared} {a : Addr} {kvs : List (Key × V)} {k : Key} {u : Value} {A : Around} {E : Value → Shared → Prop}
end
def NoSl (i : Expr) : Prop := ∀ ov iv, subscripted i false ov iv = operate [ov, iv] (getItem ov iv)
theorem subD_of {prog : Program} {w : World} {A : Around} {E : Value → Shared → Prop} {s : Shared} {env : Env} {value slice : Expr} {pos : Pos} {T id : String} {Q : Value → Shared → Prop}
    (hl : typeLookup (.type T) "__getitem__" = pure (some (.builtin id))) (hs : NoSl slice)
    (h : wpAny (model prog w) A (eval value env) (fun o s₁ => wpAny (model prog w) A (eval slice env) (fun i s₂ => s₂.TypeIs o T ∧ wpAny (model prog w) A (getItem o i) Q E s₂) E s₁) E s) :
    wpAny (model prog w) A (eval (.Subscript value slice pos) env) Q E s := by
  refine Subscript_ (wpAny_mono h (fun o s₁ h₁ => wpAny_mono h₁ (fun i s₂ h₂ => ?_) fun _ _ x => x) fun _ _ x => x)
  obtain ⟨hT, h₂⟩ := h₂
  unfold subscriptTail
  refine wpAny_bind ?_
  rw [getitemInPython_of_ne hT.not_modules]
  refine wpAny_bind (wpAny_specialOf hT hl ?_)
  have fin : wpAny (model prog w) A (subscripted slice false o i) (fun r s₃ => wpAny (model prog w) A (letTemporaryGo value o r >>= fun _ => pure r) Q E s₃) E s₂ := by
    rw [hs o i]
    exact wpAny_operating (wpAny_mono h₂ (fun r s₃ h₃ => wpAny_bind (wpAny_letTemporaryGo (wpAny_pure h₃))) fun _ _ x => x)
  first
    | exact wpAny_pure (wpAny_bind fin)
    | exact wpAny_bind (wpAny_pure (wpAny_bind fin))
    | exact wpAny_bind fin
theorem dict_typeIs {X : Cx} {pins : List (Addr × Obj)} {σ : St} {H : Hp} {s : Shared} {a : Addr} {y : V} {o : Option V} (I : Inv X pins σ H s) (g : DGet H a y o) : s.TypeIs (.ref a) "dict" := by
  rcases g with ⟨kvs, k, e, _, _⟩ | ⟨kvs, k, b, e, _, _, _⟩
  · obtain ⟨_, _, vs, _, dd⟩ := dk_rd I.hok e
    exact dd.typeIs
  · obtain ⟨_, _, xs, _, dd⟩ := dt_rd I.hok e
    exact dd.typeIs
def tDGet (td ty : TE) : TE := fun σ H Q => td σ H fun x H1 => ty σ H1 fun y H2 => ∃ a v, x = .ref a ∧ DGet H2 a y (some v) ∧ Q v H2
def sDPut (td ty tv : TE) : TS := fun D σ H => tv σ H fun v H1 => td σ H1 fun x H2 => ty σ H2 fun y H3 => ∃ a H4, x = .ref a ∧ DPut H3 a y v H4 ∧ D.nx σ H4
section
variable {X : Cx} {o i e value : Expr} {pos pos' tpos : Pos} {td ty tv : TE}
theorem pe_dget (hu : X.A.units + 1 < cLine) (ho : PE X o td) (hi : PE X i ty) (hs : NoSl i) : PE X (.Subscript o i pos) (tDGet td ty) := by
  intro pins s σ H Q I h
  refine subD_of PySem.F.slot_dict_getitem.lookup hs (thn (ho pins s σ H _ I h) fun u s1 ⟨x, H1, I1, rx, q1⟩ => thn (hi pins s1 σ H1 _ I1 q1) fun iv s2 ⟨y, H2, I2, ry, a, v, ex, g, q2⟩ => ?_)
  subst ex
  obtain rfl : u = Value.ref a := rx
  exact ⟨dict_typeIs I2 g, d_getItem hu I2 g ry fun w' s3 I3 rw' => ⟨v, H2, I3, rw', q2⟩⟩
theorem ps_dput (hu : X.A.units + 1 < cLine) (ho : PE X o td) (hi : PE X i ty) (hv : PE X value tv) (hs : swapsWith value (some (.Subscript o i pos')) pos.line X.env = pure false) :
    PS X (.Assign [.Subscript o i pos'] value pos) (sDPut td ty tv) := by
  intro pins s σ H D I h
  refine wpAny_Assign_Subscript (thn (hv pins s σ H _ I h) fun r s1 ⟨v, H1, I1, rv, q1⟩ => thn (ho pins s1 σ H1 _ I1 q1) fun u s2 ⟨x, H2, I2, rx, q2⟩ => thn (hi pins s2 σ H2 _ I2 q2) fun iv s3 ⟨y, H3, I3, ry, a, H4, ex, g, q3⟩ => ?_) hs
  subst ex
  obtain rfl : u = Value.ref a := rx
  exact d_setItem hu I3 g ry rv fun s4 I4 => ⟨σ, H4, I4, q3⟩
end
theorem dt_empty {P : Program} {w : World} {H : Hp} (h : Heap) (hb : sysModules < h.objs.size) : ObjOk P w H (h.push { cls := .type "dict", data := .dict #[] }) h.objs.size (.dT []) :=
  ⟨Nat.zero_le _, beq_eq_false_iff_ne.mpr (Ne.symm (Nat.ne_of_lt hb)), [], .nil, _, #[], 0, Heap.get?_push_size _ rfl, ⟨rfl, rfl, rfl⟩, rfl, rfl, List.nodup_nil⟩
def tDNewT : TE := fun _ H Q => ∀ p, H p = none → Q (.ref p) (upd H p (.dT []))
section
variable {X : Cx} {pos : Pos}
theorem pe_dnewT : PE X (.Dict [] [] pos) tDNewT := fun pins s σ H Q I h =>
  wpAny_Dict_empty ⟨.ref s.heap.objs.size, _, I.laid (a := s.heap.objs.size) (o := .dT []) (t' := s.toks) (fun _ _ q => Heap.get?_push_of_some _ q) (Nat.le_refl _) (dt_empty s.heap I.big), rfl, h _ (I.hok.fresh (Nat.le_refl _))⟩
end
structure M2 (X : Cx) (o : Expr) (m : Str) (apos : Pos) (e f : Expr) (cpos : Pos) : Prop where
  base : attributeBase o m X.env (eval o X.env) = eval o X.env
  few : ((backTo cpos (starEach [e, f] X.env)).all (fun x => !x.1) && (backToKw cpos (keywordEach [] X.env)).all (fun x => x.1.isSome)
    && decide (([e, f] : List Expr).length + ([] : List Keyword).length + (if ([] : List Keyword).isEmpty then 0 else 1) < 30)) = true
  line : (apos.endLine == cpos.line) = true
  trees : backTo cpos (starEach [e, f] X.env) = [(false, eval e X.env), (false, eval f X.env)]
def IsD (H : Hp) (a : Addr) : Prop := (∃ kvs, Rd H a (.dK kvs)) ∨ ∃ kvs, Rd H a (.dT kvs)
theorem isD_at {X : Cx} {pins : List (Addr × Obj)} {σ : St} {H : Hp} {s : Shared} {a : Addr} (I : Inv X pins σ H s) (d : IsD H a) :
    s.TypeIs (.ref a) "dict" ∧ (∀ b, Value.ref a = .ref b → ∃ ob, s.heap.get? b = some ob ∧ ob.dict = none) ∧ (a == sysModules) = false := by
  rcases d with ⟨kvs, e⟩ | ⟨kvs, e⟩
  · obtain ⟨_, hd, vs, _, dd⟩ := dk_rd I.hok e
    refine ⟨dd.typeIs, fun b q => ?_, hd⟩
    cases q
    obtain ⟨ob, _, _, h1, h2, _⟩ := dd
    exact ⟨ob, h1, h2.2.1⟩
  · obtain ⟨_, hd, xs, _, dd⟩ := dt_rd I.hok e
    refine ⟨dd.typeIs, fun b q => ?_, hd⟩
    cases q
    obtain ⟨ob, _, _, h1, h2, _⟩ := dd
    exact ⟨ob, h1, h2.2.1⟩
section
variable {X : Cx} {pins : List (Addr × Obj)} {σ : St} {H : Hp} {s : Shared} {a : Addr} {y d : V} {u r : Value} {o : Option V} {A : Around} {E : Value → Shared → Prop}
theorem d_get2 {Q : Value → Shared → Prop} (hu : A.units + 1 < cLine) (I : Inv X pins σ H s) (g : DGet H a y o) (ry : RelV y u) (rd : RelV d r) (h : ∀ w' s', Inv X pins σ H s' → RelV (o.getD d) w' → Q w' s') :
    wpAny (model X.prog X.w) A (call (.builtin "dict.get") [.ref a, u, r]) Q E s := by
  rcases g with ⟨kvs, k, e, ey, l⟩ | ⟨kvs, k, b, e, ey, eb, l⟩
  · subst ey
    obtain ⟨z, hd, vs, rel, dd⟩ := dk_rd I.hok e
    refine call_meetsIn PySem.F.slot_dict_get dd.typeIs PySem.F.entry_dict_get (PySem.F.args_dict_get_3 _ _ _) (meets_dict_get_default (mixKind X.prog X.w) a (kV_is ry) hd r) ⟨_, dd.mapOf, h _ _ (I.tok _) ?_⟩
    rw [l]
    exact (rel.val k).getD rd
  · subst ey
    cases (show u = Value.ref b from ry)
    obtain ⟨z, hd, xs, rel, dd⟩ := dt_rd I.hok e
    refine call_meetsIn PySem.F.slot_dict_get dd.typeIs PySem.F.entry_dict_get (PySem.F.args_dict_get_3 _ _ _) (meetsH_dict_get_default (tupleKind (mixKind X.prog X.w)) a b hd r) ⟨tupleKind_room_in1 hu, k, xs, key_of I.hok eb, dd, h _ _ (I.tok _) ?_⟩
    rw [l]
    exact (rel.val k).getD rd
end
def tDGet2 (td ty tx : TE) : TE := fun σ H Q => td σ H fun x H1 => ∃ a, x = .ref a ∧ IsD H1 a ∧ ty σ H1 fun y H2 => tx σ H2 fun z H3 => ∃ o, DGet H3 a y o ∧ Q (o.getD z) H3
section
variable {X : Cx} {o e f : Expr} {apos cpos : Pos} {td ty tx : TE}
theorem pe_dget2 (hu : X.A.units + 1 < cLine) (ho : PE X o td) (he : PE X e ty) (hf : PE X f tx) (m : M2 X o "get" apos e f cpos) : PE X (.Call (.Attribute o "get" apos) [e, f] [] cpos) (tDGet2 td ty tx) := by
  intro pins s σ H Q I h
  refine wpAny_Call_method m.base m.few m.line PySem.F.plainAttrs_dict PySem.F.slot_dict_get PySem.F.type_dict_get (thn (ho pins s σ H _ I h) fun u s1 ⟨x, H1, I1, rx, a, ex, d, q1⟩ => ?_)
  subst ex
  obtain rfl : u = Value.ref a := rx
  obtain ⟨t1, t2, _⟩ := isD_at I1 d
  refine ⟨t1, t2, ?_⟩
  rw [m.trees]
  refine Calls.callWith_builtin rfl (Calls.evalArgs_plain (Calls.spliced_cons (thn (he pins s1 σ H1 _ I1 q1) fun iv s2 ⟨y, H2, I2, ry, q2⟩ =>
    Calls.spliced_cons (thn (hf pins s2 σ H2 _ I2 q2) fun fv s3 ⟨z, H3, I3, rz, ov, g, q3⟩ => Calls.spliced_nil ?_))))
  exact d_get2 hu I3 g ry rz fun w' s4 I4 rw' => ⟨_, H3, I4, rw', q3⟩
end
section
variable {X : Cx} {pins : List (Addr × Obj)} {σ : St} {H : Hp} {s : Shared} {a : Addr} {kvs : List (Key × V)} {A : Around} {E : Value → Shared → Prop}
end
section
variable {X : Cx} {pins : List (Addr × Obj)} {σ : St} {H : Hp} {s : Shared} {a : Addr} {y : V} {u : Value} {A : Around} {E : Value → Shared → Prop}
end
end L2
namespace L2
open PySem PySem.Spec PyProof.Rows
section
variable {prog : Program} {w : World} {A : Around} {E : Value → Shared → Prop}
end
section
variable {X : Cx}
end
end L2
namespace L2
open PySem PySem.Spec PyProof.Rows
section
variable {X : Cx} {pins : List (Addr × Obj)} {σ : St} {H : Hp} {s : Shared} {h' : Heap}
theorem Inv.turnedL {t' : Nat} {ch : List Addr} (I : Inv X pins σ H s) (k : ∀ b o, b ∉ ch → s.heap.get? b = some o → h'.get? b = some o) (hf : ∀ b ∈ ch, FpOk X pins H b) : Inv X pins σ H { s with heap := h', toks := t' } := by
  have nit : ∀ b u, H b = some u → b ∉ ch := fun b u e z => by
    have q := (hf b z).1
    rw [q] at e; cases e
  refine I.step (g' := s.gens) (d' := s.drawn) (ch := ch) (fun b hb => ⟨(hf b hb).2.2.2.1, (hf b hb).2.1, (hf b hb).2.2.2.2.1, (hf b hb).2.2.2.2.2⟩) (fun b o _ _ hc e _ => k b o hc e) (fun b o _ _ hc e _ => ⟨o.slots, k b o hc e⟩)
    (fun _ _ _ _ n => n) (fun b o hc e => ⟨o, k b o hc e⟩) (fun _ _ e => e) (fun _ _ _ e => e) (fun _ _ e => e) (fun m hm => ?_) (fun b u e => ?_) I.bare
  · obtain ⟨o, es, ep, ho, r⟩ := hm
    exact ⟨o, es, ep, k _ o (fun z => (hf _ z).2.1 rfl) ho, r⟩
  · refine (I.hok b u e).stay (fun c v hc q => k c v ?_ q) (fun _ q => q) fun _ _ q => q
    rcases hc with z | z
    · rw [z]; exact nit b u e
    · exact nit c _ z
theorem Inv.turnedNew {t' : Nat} {ch : List Addr} {T : Addr} {ob : HO} (I : Inv X pins σ H s) (k : ∀ b o, b ∉ ch → s.heap.get? b = some o → h'.get? b = some o) (hf : ∀ b ∈ ch, FpOk X pins H b) (hT : s.heap.objs.size ≤ T)
    (new : ObjOk X.prog X.w (upd H T ob) h' T ob) : Inv X pins σ (upd H T ob) { s with heap := h', toks := t' } := by
  have hn : H T = none := I.hok.fresh hT
  have nit : ∀ b u, H b = some u → b ∉ ch := fun b u e z => by
    have q := (hf b z).1
    rw [q] at e; cases e
  refine I.step (g' := s.gens) (d' := s.drawn) (ch := ch) (fun b hb => ⟨(hf b hb).2.2.2.1, (hf b hb).2.1, (hf b hb).2.2.2.2.1, (hf b hb).2.2.2.2.2⟩) (fun b o _ _ hc e _ => k b o hc e) (fun b o _ _ hc e _ => ⟨o.slots, k b o hc e⟩)
    (fun b o _ e n => ?_) (fun b o hc e => ⟨o, k b o hc e⟩) (fun b xs e => ?_) (fun b o u e => ?_) (fun b ps e => ?_) (fun m hm => ?_) (fun b u e => ?_) I.bare
  · rw [upd_ne (Nat.ne_of_lt (Nat.lt_of_lt_of_le (Heap.lt_size e) hT))]; exact n
  · rw [upd_ne (ne_of_none e hn)]; exact e
  · rw [upd_ne (ne_of_none e hn)]; exact e
  · rw [upd_ne (ne_of_none e hn)]; exact e
  · obtain ⟨o, es, ep, ho, r⟩ := hm
    exact ⟨o, es, ep, k _ o (fun z => (hf _ z).2.1 rfl) ho, r⟩
  · by_cases hb : b = T
    · subst hb
      rw [upd_same] at e
      cases e
      exact new
    · rw [upd_ne hb] at e
      refine (I.hok b u e).stay (fun c v hc q => k c v ?_ q) (fun c q => by rw [upd_ne (ne_of_none q hn)]; exact q) fun c xs q => by rw [upd_ne (ne_of_none q hn)]; exact q
      rcases hc with z | z
      · rw [z]; exact nit b u e
      · exact nit c _ z
theorem Inv.lock {d : Addr} {u : HO} (I : Inv X pins σ H s) (h : H d = some u) (mu : Mut (some u)) : ∃ od, Inv X pins σ (upd H d (.frz od u)) s := by
  have x := I.hok d u h
  have ex : ∃ od, s.heap.get? d = some od := by
    cases u with
    | lst xs => obtain ⟨_, _, _, _, e⟩ := x; exact ⟨_, e⟩
    | dK kvs => obtain ⟨_, _, _, _, o, _, _, e, _⟩ := x; exact ⟨o, e⟩
    | dT kvs => obtain ⟨_, _, _, _, o, _, _, e, _⟩ := x; exact ⟨o, e⟩
    | set S n => obtain ⟨o, _, _, _, e, _⟩ := x; exact ⟨o, e⟩
    | ins C dx fs => obtain ⟨_, _, _, e, _⟩ := x; exact ⟨_, e⟩
    | ext φ => obtain ⟨_, ⟨_, e⟩, _⟩ := x; exact ⟨_, e⟩
    | _ => exact False.elim mu
  obtain ⟨od, e⟩ := ex
  have new : ObjOk X.prog X.w (upd H d (.frz od u)) s.heap d (.frz od u) := by
    refine ⟨e, x.stay (fun b v _ q => q) (fun b q => ?_) fun b xs q => ?_⟩
    · rw [upd_ne (fun z => by rw [z, h] at q; cases q; exact mu)]; exact q
    · rw [upd_ne (fun z => by rw [z, h] at q; cases q; exact mu)]; exact q
  exact ⟨od, I.write (x := d) (e := d) (t' := s.toks) (h' := s.heap) (by rw [h]; exact mu) (.inl rfl) (fun b v _ q => q) ⟨od, e⟩ new⟩
theorem Inv.nofrz {d : Addr} {u : HO} (I : Inv X pins σ H s) (h : H d = some u) (mu : Mut (some u)) : ∀ o' u', X.H_0 d ≠ some (.frz o' u') := fun o' u' e => by
  have q := I.base.frzs d o' u' e
  rw [h] at q
  cases q
  exact mu
theorem Inv.unlock {d : Addr} {od : Obj} {u : HO} (I : Inv X pins σ H s) (h : H d = some (.frz od u)) (hn : ∀ o' u', X.H_0 d ≠ some (.frz o' u')) : Inv X pins σ (upd H d u) s := by
  have neH : ∀ b o, H b = some o → (∀ o' u', o ≠ .frz o' u') → b ≠ d := fun b o e hne z => by
    rw [z, h] at e
    cases e
    exact hne _ _ rfl
  have neN : ∀ b, H b = none → b ≠ d := fun b e z => by rw [z, h] at e; cases e
  refine ⟨I.ok, I.os, I.bare, ⟨I.base.keep, I.base.slot, fun b o e n hx => ?_, I.base.there, fun b xs e => ?_, fun b o x e => ?_, fun b ps e => ?_⟩, I.loc, I.cell, ?_, fun x c e => ?_, fun p hp => ?_, fun b o e => ?_, I.len⟩
  · rw [upd_ne (neN b (I.base.free b o e n hx))]; exact I.base.free b o e n hx
  · have q := I.base.tups b xs e
    rw [upd_ne (neH b _ q (fun _ _ z => nomatch z))]; exact q
  · have q := I.base.frzs b o x e
    rw [upd_ne (fun z => by rw [z] at e; exact hn _ _ e)]; exact q
  · have q := I.base.tbls b ps e
    rw [upd_ne (neH b _ q (fun _ _ z => nomatch z))]; exact q
  · rw [upd_ne (neN _ I.free)]; exact I.free
  · rw [upd_ne (neN c (I.freeC x c e))]; exact I.freeC x c e
  · obtain ⟨e, n, r⟩ := I.pin p hp
    exact ⟨e, by rw [upd_ne (neN _ n)]; exact n, r⟩
  · by_cases hb : b = d
    · rw [hb, upd_same] at e
      cases e
      rw [hb]
      obtain ⟨_, x⟩ := I.hok d _ h
      exact x.stay (fun c v _ q => q) (fun c q => by rw [upd_ne (neH c _ q (fun _ _ z => nomatch z))]; exact q) fun c xs q => by rw [upd_ne (neH c _ q (fun _ _ z => nomatch z))]; exact q
    · rw [upd_ne hb] at e
      exact (I.hok b o e).stay (fun c v _ q => q) (fun c q => by rw [upd_ne (neH c _ q (fun _ _ z => nomatch z))]; exact q) fun c xs q => by rw [upd_ne (neH c _ q (fun _ _ z => nomatch z))]; exact q
end
def tLock (t : TS) : TS := fun D σ H => ∃ d u, H d = some u ∧ Mut (some u) ∧ ∀ od, t ⟨fun σ' H' => H' d = some (.frz od u) ∧ D.nx σ' (upd H' d u), fun v H' => H' d = some (.frz od u) ∧ D.rt v (upd H' d u), fun σ' H' => H' d = some (.frz od u) ∧ D.bk σ' (upd H' d u), fun σ' H' => H' d = some (.frz od u) ∧ D.ct σ' (upd H' d u)⟩ σ (upd H d (.frz od u))
section
variable {X : Cx}
theorem ps_lock {st : Stmt} {t : TS} (h : PS X st t) : PS X st (tLock t) := by
  intro pins s σ H D I hw
  obtain ⟨d, u, hd, mu, hw⟩ := hw
  obtain ⟨od, I1⟩ := I.lock hd mu
  refine thn (h pins s σ _ _ I1 (hw od)) fun f s1 q => ?_
  cases f with
  | next => obtain ⟨σ', H', I2, e, q⟩ := q; exact ⟨σ', _, I2.unlock e (I.nofrz hd mu), q⟩
  | brk => obtain ⟨σ', H', I2, e, q⟩ := q; exact ⟨σ', _, I2.unlock e (I.nofrz hd mu), q⟩
  | cont => obtain ⟨σ', H', I2, e, q⟩ := q; exact ⟨σ', _, I2.unlock e (I.nofrz hd mu), q⟩
  | ret v => obtain ⟨x, σ', H', I2, r, e, q⟩ := q; exact ⟨x, σ', _, I2.unlock e (I.nofrz hd mu), r, q⟩
theorem pi_one {tg : Expr} {pins : List (Addr × Obj)} {σ : St} {H : Hp} {s : Shared} {R : It → Hp → Prop} {J : It} {tn : Nat → Heap → Prop} {tk : Nat} (I : Inv X pins σ H s) (o : Obj)
    (T : Turn X.prog X.w X.K tg J [s.heap.objs.size] s.heap.objs.size tn) (st : tn 0 (s.heap.push o)) (q : R J H) : PIE X pins σ tg R (.ref s.heap.objs.size) { s with heap := s.heap.push o, toks := tk } := by
  refine ⟨s.heap.objs.size, [s.heap.objs.size], tn, J, H, rfl, I.kept fun b ob e => Heap.get?_push_of_some _ e, T, st, fun b hb => ?_, q⟩
  have e : b = s.heap.objs.size := by simpa using hb
  subst e
  exact I.fpOk (Nat.le_refl _) (I.hok.fresh (Nat.le_refl _))
end
section
variable {X : Cx} {tg : Expr}
end
section
variable {X : Cx} {tg : Expr}
end
section
variable {prog : Program} {w : World} {A : Around} {E : Value → Shared → Prop} {s : Shared}
theorem iter_keys {d : Addr} {o : Obj} {es : Array DictEntry} {ep : Nat} {Q : Value → Shared → Prop} (hd : (d == sysModules) = false) (ho : s.heap.get? d = some o) (hc : o.ExactDict) (hdat : o.data = .dict es ep)
    (hQ : Q (.ref s.heap.objs.size) { s with heap := s.heap.push { cls := .type "dict_keyiterator", data := .fields #[.ref d, .int 0 0, .int es.size 0, .int ep 0] } }) :
    wpAny (model prog w) A (pyIter (.ref d)) Q E s := by
  have hT : s.TypeIs (.ref d) "dict" := ⟨o, ho, hc.1⟩
  refine wpAny_pyIter_slot hT F.slot_dict_iter (wpAny_call_entry F.slot_dict_iter hT F.entry_dict_iter ?_ (F.args_dict_iter_1 _))
  unfold Builtin.«dict.__iter__»
  refine wpAny_bind ?_
  unfold Builtin.Dict.dictSlotNone
  refine wpAny_bind (wpAny_notOrdered_dict hT ?_)
  show wpAny _ _ (pure (Value.ref d)) _ _ s
  refine wpAny_pure ?_
  show wpAny _ _ (Builtin.Dict.showsAll d >>= _) _ _ s
  unfold Builtin.Dict.showsAll
  rw [if_neg (by rw [hd]; exact Bool.false_ne_true)]
  refine wpAny_bind (wpAny_pure ?_)
  refine wpAny_bind (wpAny_dictEntries ho hdat ?_)
  refine wpAny_bind (wpAny_dictEpoch ho hdat ?_)
  refine wpAny_bind (wpAny_newObj_type (wpAny_pure ⟨_, rfl, "dict_keyiterator", _, ⟨_, Heap.get?_push_size _ rfl, rfl⟩, F.slot_dict_keyiterator_next.lookup, ?_⟩))
  simpa [rawInt] using hQ
theorem next_key_item {it d : Addr} {i n ep : Nat} {od : Obj} {es : Array DictEntry} {en : DictEntry} {Q : Option Value → Shared → Prop} (hit : s.heap.IsKeyIter it d i n ep) (hod : s.heap.get? d = some od) (hdd : od.data = .dict es ep)
    (hsz : es.size = n) (hx : es[i]? = some en) (hQ : ∀ h', h'.IsKeyIter it d (i + 1) n ep → Heap.SameBut it s.heap h' → Q (some en.key) { s with heap := h' }) : wpAny (model prog w) A (pyNext (.ref it)) Q E s := by
  obtain ⟨o, ho, hc, hd⟩ := id hit
  unfold pyNext
  refine wpAny_bind (wpAny_attempt (wpAny_callSpecial?_slot (name := Str.ofString "__next__") hit.typeIs F.slot_dict_keyiterator_next
    (wpAny_call_entry F.slot_dict_keyiterator_next hit.typeIs F.entry_dict_keyiterator_next ?_ (F.args_dict_keyiterator_next_1 _))))
  refine wpAny_bind (wpAny_pure ?_)
  refine wpAny_bind ?_
  refine wpAny_bind ?_
  first | refine wpAny_bind (wpAny_typeNameOfWhole_keyiter hit.typeIs (wpAny_pure ?_)) | refine wpAny_bind (wpAny_typeNameOf_keyiter hit.typeIs (wpAny_pure ?_))
  refine wpAny_bind (wpAny_fieldsOf ho hd ?_)
  have hown : Builtin.Dict_items.ownsTuple "dict_keyiterator" = false := by decide
  simp only [hown, Bool.false_eq_true, if_false]
  show wpAny _ _ (if (Value.ref d == Value.none) = true then _ else _) _ _ s
  rw [if_neg (show ¬ ((Value.ref d == Value.none) = true) from Bool.false_ne_true)]
  refine wpAny_bind (wpAny_pure ?_)
  refine wpAny_bind (wpAny_dictEntries hod hdd ?_)
  rw [if_neg (by rw [hsz]; simp)]
  refine wpAny_bind (wpAny_pure ?_)
  refine wpAny_bind (wpAny_dictEpoch hod hdd ?_)
  rw [if_neg (by simp)]
  refine wpAny_pure ?_
  obtain ⟨hlt', hen⟩ := Array.getElem?_eq_some_iff.mp hx
  simp only [show ¬ ((i : Int) < 0) from by omega, if_false, Int.toNat_natCast, Array.getElem?_eq_getElem hlt']
  refine wpAny_bind ?_
  first | refine wpAny_bind (wpAny_typeNameOfWhole_keyiter hit.typeIs (wpAny_pure ?_)) | refine wpAny_bind (wpAny_typeNameOf_keyiter hit.typeIs (wpAny_pure ?_))
  refine wpAny_bind (wpAny_isOneOf_keyiter hit.typeIs ?_)
  show wpAny _ _ (setField (.ref it) 1 (rawInt ((i : Int) + 1)) >>= _) _ _ s
  refine wpAny_bind (wpAny_setField ho hd (by simp) ?_)
  have hit' : (s.heap.update it (Obj.mapFields (·.setIfInBounds 1 (rawInt ((i : Int) + 1))))).IsKeyIter it d (i + 1) n ep :=
    ⟨_, Heap.get?_update_self _ ho (Obj.isFreed_of_fields (Obj.data_mapFields hd _)), (Obj.cls_mapFields ..).trans hc, by rw [Obj.data_mapFields hd]; simp [rawInt]⟩
  refine wpAny_bind (wpAny_holding ?_)
  refine wpAny_bind (wpAny_isOneOf_keyiter (s := { s with heap := s.heap.update it (Obj.mapFields (·.setIfInBounds 1 (rawInt ((i : Int) + 1)))) }) hit'.typeIs ?_)
  show wpAny _ _ (pure es[i].key) _ _ _
  rw [hen]
  exact wpAny_pure (wpAny_pure ⟨_, rfl, wpAny_pure (hQ _ hit' (Heap.SameBut.update ..))⟩)
theorem next_key_end {it d : Addr} {i n ep : Nat} {od : Obj} {es : Array DictEntry} {Q : Option Value → Shared → Prop} (hh : A.handled = none) (hit : s.heap.IsKeyIter it d i n ep) (hod : s.heap.get? d = some od) (hdd : od.data = .dict es ep)
    (hsz : es.size = n) (hge : n ≤ i) (hQ : ∀ h', Heap.ExtBut it s.heap h' → Q none { s with heap := h' }) : wpAny (model prog w) A (pyNext (.ref it)) Q E s := by
  obtain ⟨o, ho, hc, hd⟩ := id hit
  unfold pyNext
  refine wpAny_bind (wpAny_attempt (wpAny_callSpecial?_slot (name := Str.ofString "__next__") hit.typeIs F.slot_dict_keyiterator_next
    (wpAny_call_entry F.slot_dict_keyiterator_next hit.typeIs F.entry_dict_keyiterator_next ?_ (F.args_dict_keyiterator_next_1 _))))
  refine wpAny_bind (wpAny_pure ?_)
  refine wpAny_bind ?_
  refine wpAny_bind ?_
  first | refine wpAny_bind (wpAny_typeNameOfWhole_keyiter hit.typeIs (wpAny_pure ?_)) | refine wpAny_bind (wpAny_typeNameOf_keyiter hit.typeIs (wpAny_pure ?_))
  refine wpAny_bind (wpAny_fieldsOf ho hd ?_)
  have hown : Builtin.Dict_items.ownsTuple "dict_keyiterator" = false := by decide
  simp only [hown, Bool.false_eq_true, if_false]
  show wpAny _ _ (if (Value.ref d == Value.none) = true then _ else _) _ _ s
  rw [if_neg (show ¬ ((Value.ref d == Value.none) = true) from Bool.false_ne_true)]
  refine wpAny_bind (wpAny_pure ?_)
  refine wpAny_bind (wpAny_dictEntries hod hdd ?_)
  rw [if_neg (by rw [hsz]; simp)]
  refine wpAny_bind (wpAny_pure ?_)
  refine wpAny_bind (wpAny_dictEpoch hod hdd ?_)
  rw [if_neg (by simp)]
  refine wpAny_pure ?_
  have hge' : es.size ≤ i := by rw [hsz]; exact hge
  simp only [show ¬ ((i : Int) < 0) from by omega, if_false, Int.toNat_natCast, Array.getElem?_eq_none hge']
  refine wpAny_bind ?_
  first | refine wpAny_bind (wpAny_typeNameOfWhole_keyiter hit.typeIs (wpAny_pure ?_)) | refine wpAny_bind (wpAny_typeNameOf_keyiter hit.typeIs (wpAny_pure ?_))
  show wpAny _ _ (setField (.ref it) 0 .none >>= _) _ _ s
  refine wpAny_bind (wpAny_setField ho hd (by simp) ?_)
  show wpAny _ _ (newExc (.type "StopIteration") [] >>= _) _ _ _
  refine wpAny_bind ?_
  simp only [newExc, newTuple]
  refine wpAny_bind (wpAny_newObj_type ?_ (by size_fits))
  refine wpAny_bind (m := firstArgMember _ _) (wpAny_of_eq (a := Value.none) (by first | rfl | (simp only [firstArgMember]; rfl)) ?_)
  refine wpAny_newObj_type ?_ (by size_fits)
  simp only [raiseNew]
  refine wpAny_bind (wpAny_handled ?_)
  rw [show A.in1.handled = none from hh]
  refine wpAny_bind (wpAny_pure (wpAny_throw ?_))
  refine wpAny_bind (wpAny_isInstance (T := "StopIteration") (b := true) ⟨_, Heap.get?_push_size _ rfl, rfl⟩ isSubtype_stop ?_)
  exact wpAny_pure (hQ _ (((Heap.SameBut.update ..).extBut.push _).push _))
end
theorem kv_get {κ : Type} {kvs : List (κ × V)} {vs : List (κ × Value)} (h : KV kvs vs) : ∀ {i : Nat} {k : κ} {v : V}, kvs[i]? = some (k, v) → ∃ u, vs[i]? = some (k, u) ∧ RelV v u := by
  unfold KV at h
  induction h with
  | nil => intro i k v e; simp at e
  | @cons a b l₁ l₂ r t ih =>
    intro i k v e
    cases i with
    | zero =>
      simp only [List.getElem?_cons_zero, Option.some.injEq] at e
      subst e
      refine ⟨b.2, ?_, r.2⟩
      simp only [List.getElem?_cons_zero]
      exact congrArg some (Prod.ext r.1.symm rfl)
    | succ j =>
      simp only [List.getElem?_cons_succ] at e ⊢
      exact ih e
theorem paired_get {α β : Type} {G : α → β → Prop} {l₁ : List α} {l₂ : List β} (h : Paired G l₁ l₂) : ∀ {i : Nat} {a : α}, l₁[i]? = some a → ∃ b, l₂[i]? = some b ∧ G a b := by
  induction h with
  | nil => intro i a e; simp at e
  | @cons a b l₁ l₂ r t ih =>
    intro i a' e
    cases i with
    | zero =>
      simp only [List.getElem?_cons_zero, Option.some.injEq] at e
      subst e
      exact ⟨b, rfl, r⟩
    | succ j =>
      simp only [List.getElem?_cons_succ] at e ⊢
      exact ih e
theorem relV_key {k : Key} {u : Value} (h : keyIs k u = true) : RelV (kV k) u := by
  rcases keyIs_shape h with ⟨i, t, rfl, rfl⟩ | ⟨x, t, rfl, rfl⟩
  · exact ⟨t, rfl⟩
  · exact ⟨t, rfl⟩
section
variable {X : Cx} {pins : List (Addr × Obj)} {σ : St} {H : Hp} {s : Shared} {d : Addr} {o : Obj}
theorem Inv.frzK {kvs : List (Key × V)} (I : Inv X pins σ H s) (h : H d = some (.frz o (.dK kvs))) :
    (d == sysModules) = false ∧ s.heap.get? d = some o ∧ o.ExactDict ∧ ∃ (es : Array DictEntry) (ep : Nat) (vs : List (Key × Value)), o.data = .dict es ep ∧ es.size = kvs.length ∧ KV kvs vs ∧ s.heap.DictAt (mixKind X.prog X.w) d vs ep := by
  obtain ⟨hd, z, hs, vs, kv, o', es, ep, ho, hx, hdt, r⟩ := I.hok d _ h
  rw [hd] at ho
  cases ho
  refine ⟨hs, hd, hx, es, ep, vs, hdt, ?_, kv, o, es, hd, hx, hdt, r⟩
  have l1 := r.2.1.length
  have l2 : kvs.length = vs.length := Paired.length kv
  rw [Array.length_toList] at l1
  omega
theorem Inv.frzT {kvs : List (List Key × V)} (I : Inv X pins σ H s) (h : H d = some (.frz o (.dT kvs))) :
    (d == sysModules) = false ∧ s.heap.get? d = some o ∧ o.ExactDict ∧ ∃ (es : Array DictEntry) (ep : Nat), o.data = .dict es ep ∧ es.size = kvs.length ∧
      ∀ (i : Nat) (k : List Key) (v : V), kvs[i]? = some (k, v) → ∃ (en : DictEntry) (q : Addr), es[i]? = some en ∧ en.key = .ref q ∧ H q = some (.tup (k.map kV)) := by
  obtain ⟨hd, z, hs, xs, pr, o', es, ep, ho, hx, hdt, he, _⟩ := I.hok d _ h
  rw [hd] at ho
  cases ho
  refine ⟨hs, hd, hx, es, ep, hdt, ?_, fun i k v e => ?_⟩
  · have l1 : es.size = xs.length := size_of_entries he
    have l2 : kvs.length = xs.length := Paired.length pr
    omega
  · obtain ⟨b, hb, e1, e2, _⟩ := paired_get pr e
    have q := entry_at he i
    rw [hb] at q
    exact ⟨_, b.2.1, q, rfl, e2⟩
end
def Itk (d : Addr) (o : Obj) (kvs : List (Key × V)) : It :=
  ⟨fun i H => H d = some (.frz o (.dK kvs)) ∧ i < kvs.length, fun i H x H' => H' = H ∧ ∃ k v, kvs[i]? = some (k, v) ∧ x = kV k, fun i H => H d = some (.frz o (.dK kvs)) ∧ kvs.length ≤ i⟩
def Itkt (d : Addr) (o : Obj) (kvs : List (List Key × V)) : It :=
  ⟨fun i H => H d = some (.frz o (.dT kvs)) ∧ i < kvs.length, fun i H x H' => H' = H ∧ ∃ (k : List Key) (v : V) (q : Addr), kvs[i]? = some (k, v) ∧ x = .ref q ∧ H q = some (.tup (k.map kV)), fun i H => H d = some (.frz o (.dT kvs)) ∧ kvs.length ≤ i⟩
theorem dict_ep {o : Obj} {es es' : Array DictEntry} {ep ep' : Nat} (h : o.data = .dict es ep) (h' : o.data = .dict es' ep') : es' = es ∧ ep' = ep := by
  rw [h] at h'
  cases h'
  exact ⟨rfl, rfl⟩
section
variable {P : Program} {w : World} {K : PySem.W.Frag} {tg : Expr} {d : Addr} {o : Obj} {es : Array DictEntry} {ep : Nat}
theorem turn_keys {kvs : List (Key × V)} (it : Addr) (hod : o.data = .dict es ep) : Turn P w K tg (Itk d o kvs) [it] it (fun i h => h.IsKeyIter it d i kvs.length ep) where
  mem := by simp
  obj := fun i h st b hb => by
    have e : b = it := by simpa using hb
    subst e
    obtain ⟨oi, e, c, dd⟩ := st
    exact ⟨oi, e, fun v z => by rw [dd] at z; cases z⟩
  keep := fun i h h' st k => st.at fun oi e => k it (by simp) oi e
  item := by
    intro X hP hw hK hc i pins s σ H E I hf st hg
    subst hP hw hK
    obtain ⟨hd, hi⟩ := hg
    obtain ⟨f0, f1, f2, f3, f4, f5⟩ := hf it (by simp)
    obtain ⟨hs, hgd, hx, es', ep', vs, hdt, hsz, kv, hm⟩ := I.frzK hd
    obtain ⟨rfl, rfl⟩ := dict_ep hod hdt
    obtain ⟨⟨k, v⟩, hkv⟩ : ∃ p, kvs[i]? = some p := ⟨kvs[i], List.getElem?_eq_getElem hi⟩
    obtain ⟨u, hu, ru⟩ := kv_get kv hkv
    have hl : kvs.length = vs.length := Paired.length kv
    rw [hl] at st
    refine wpAny_pyNext_dict_item st hm hu fun key h' hkey st' sb => ?_
    have I1 : Inv X pins σ H { s with heap := h' } := I.turned (t' := s.toks) (fun b ob hb e => (sb.2 b hb).trans e) f0 f1 f3 f4 f5
    obtain ⟨oi, e, c, dd⟩ := id st'
    refine ⟨key, rfl, go_of (s := { s with heap := h' }) e c dd (by decide) ⟨kV k, H, I1, relV_key (show keyIs k key = true from hkey), ⟨rfl, k, v, hkv, rfl⟩, ?_, fun b hb => (hf b hb).1⟩⟩
    show h'.IsKeyIter it d (i + 1) kvs.length _
    rw [hl]
    exact st'
  done := by
    intro X hP hw hK hc i pins s σ H E I hf st hg
    subst hP hw hK
    obtain ⟨hd, hi⟩ := hg
    obtain ⟨f0, f1, f2, f3, f4, f5⟩ := hf it (by simp)
    obtain ⟨hs, hgd, hx, es', ep', vs, hdt, hsz, kv, hm⟩ := I.frzK hd
    obtain ⟨rfl, rfl⟩ := dict_ep hod hdt
    exact next_key_end (I.ok.hd hc) st hgd hdt hsz hi fun h' eb => ⟨rfl, I.turned (t' := s.toks) (fun b ob hb e => eb b ob hb e) f0 f1 f3 f4 f5⟩
  self := fun A i s Q E st h => wpAny_pyIter_keyiter st h
theorem turn_keysT {kvs : List (List Key × V)} (it : Addr) (hod : o.data = .dict es ep) : Turn P w K tg (Itkt d o kvs) [it] it (fun i h => h.IsKeyIter it d i kvs.length ep) where
  mem := by simp
  obj := fun i h st b hb => by
    have e : b = it := by simpa using hb
    subst e
    obtain ⟨oi, e, c, dd⟩ := st
    exact ⟨oi, e, fun v z => by rw [dd] at z; cases z⟩
  keep := fun i h h' st k => st.at fun oi e => k it (by simp) oi e
  item := by
    intro X hP hw hK hc i pins s σ H E I hf st hg
    subst hP hw hK
    obtain ⟨hd, hi⟩ := hg
    obtain ⟨f0, f1, f2, f3, f4, f5⟩ := hf it (by simp)
    obtain ⟨hs, hgd, hx, es', ep', hdt, hsz, ent⟩ := I.frzT hd
    obtain ⟨rfl, rfl⟩ := dict_ep hod hdt
    obtain ⟨⟨k, v⟩, hkv⟩ : ∃ p, kvs[i]? = some p := ⟨kvs[i], List.getElem?_eq_getElem hi⟩
    obtain ⟨en, q, hen, hkey, hq⟩ := ent i k v hkv
    refine next_key_item st hgd hdt hsz hen fun h' st' sb => ?_
    have I1 : Inv X pins σ H { s with heap := h' } := I.turned (t' := s.toks) (fun b ob hb e => (sb.2 b hb).trans e) f0 f1 f3 f4 f5
    obtain ⟨oi, e, c, dd⟩ := id st'
    exact ⟨en.key, rfl, go_of (s := { s with heap := h' }) e c dd (by decide) ⟨.ref q, H, I1, hkey, ⟨rfl, k, v, q, hkv, rfl, hq⟩, st', fun b hb => (hf b hb).1⟩⟩
  done := by
    intro X hP hw hK hc i pins s σ H E I hf st hg
    subst hP hw hK
    obtain ⟨hd, hi⟩ := hg
    obtain ⟨f0, f1, f2, f3, f4, f5⟩ := hf it (by simp)
    obtain ⟨hs, hgd, hx, es', ep', hdt, hsz, ent⟩ := I.frzT hd
    obtain ⟨rfl, rfl⟩ := dict_ep hod hdt
    exact next_key_end (I.ok.hd hc) st hgd hdt hsz hi fun h' eb => ⟨rfl, I.turned (t' := s.toks) (fun b ob hb e => eb b ob hb e) f0 f1 f3 f4 f5⟩
  self := fun A i s Q E st h => by
    refine wpAny_pyIter_slot st.typeIs F.slot_dict_keyiterator_iter (wpAny_call_entry F.slot_dict_keyiterator_iter st.typeIs F.entry_dict_keyiterator_iter ?_ (F.args_dict_keyiterator_iter_1 _))
    show wpAny _ _ (ret (.ref it)) _ _ s
    exact wpAny_pure ⟨_, rfl, "dict_keyiterator", _, st.typeIs, F.slot_dict_keyiterator_next.lookup, h⟩
end
def iKeys (td : TE) : TI := fun σ H R => td σ H fun x H1 => ∃ d o, x = .ref d ∧ ((∃ kvs, H1 d = some (.frz o (.dK kvs)) ∧ R (Itk d o kvs) H1) ∨ ∃ kvs, H1 d = some (.frz o (.dT kvs)) ∧ R (Itkt d o kvs) H1)
section
variable {X : Cx} {tg e : Expr} {td : TE} {apos cpos : Pos}
theorem pi_keys (he : PE X e td) : PI X tg e (iKeys td) := by
  intro pins s σ H R I h
  refine thn (he pins s σ H _ I h) fun u s1 ⟨x, H1, I1, rx, d, o, ex, q⟩ => ?_
  subst ex
  obtain rfl : u = Value.ref d := rx
  rcases q with ⟨kvs, hd, q⟩ | ⟨kvs, hd, q⟩
  · obtain ⟨hs, hgd, hx, es, ep, vs, hdt, hsz, kv, hm⟩ := I1.frzK hd
    refine iter_keys hs hgd hx hdt (pi_one (tk := s1.toks) I1 _ (turn_keys _ hdt) ⟨_, Heap.get?_push_size _ rfl, rfl, ?_⟩ q)
    rw [hsz] <;> rfl
  · obtain ⟨hs, hgd, hx, es, ep, hdt, hsz, ent⟩ := I1.frzT hd
    refine iter_keys hs hgd hx hdt (pi_one (tk := s1.toks) I1 _ (turn_keysT _ hdt) ⟨_, Heap.get?_push_size _ rfl, rfl, ?_⟩ q)
    rw [hsz] <;> rfl
end
def Ite (K : PySem.W.Frag) (a : Addr) : It :=
  ⟨fun i H => ∃ (xs : List V) (x : V), SqL K H a xs ∧ xs[i]? = some x, fun i H v H' => ∃ T x, v = .ref T ∧ H T = none ∧ H' = upd H T (.tup [.int (i : Nat), x]) ∧ ∀ xs, SqL K H a xs → xs[i]? = some x, fun i H => ∃ xs : List V, SqL K H a xs ∧ xs.length ≤ i⟩
theorem turn_enum {P : Program} {w : World} {K : PySem.W.Frag} {elts : List Expr} {kk : Nat} {tpos : Pos} (a e it : Addr) :
    Turn P w K (.Tuple elts kk tpos) (Ite K a) [e, it] e (fun i h => (∃ old, IsEnum h e it ((i : Nat) : Int) old) ∧ h.IsListIter it a i ∧ e ≠ it) where
  mem := by simp
  obj := fun i h st b hb => by
    obtain ⟨⟨old, he⟩, ⟨o, ho, hc, hd⟩, _⟩ := st
    have e' : b = e ∨ b = it := by simpa using hb
    rcases e' with z | z
    · rw [z]; exact ⟨_, he, fun v q => nomatch q⟩
    · rw [z]; exact ⟨o, ho, fun v q => by rw [hd] at q; cases q⟩
  keep := fun i h h' st k => let ⟨⟨old, he⟩, hi, hne⟩ := st; ⟨⟨old, k e (by simp) _ he⟩, hi.at fun o q => k it (by simp) o q, hne⟩
  item := by
    intro X hP hw hK hc i pins s σ H E I hf st hg
    subst hP hw hK
    obtain ⟨⟨old, he⟩, hit, hne⟩ := st
    obtain ⟨xs, x, hq, hx⟩ := hg
    obtain ⟨its, rv, p, hz⟩ := I.list hq
    obtain ⟨u, hu, ru⟩ := rv.get hx
    have hel : e < s.heap.objs.size := Heap.lt_size he
    have hil : it < s.heap.objs.size := by obtain ⟨_, q, _⟩ := hit; exact Heap.lt_size q
    refine wpAny_pyNext_enum_item he hit p.isList (x := u) (by simpa using hu) hne fun h' ho hit' hT hsz hk => ?_
    refine ⟨_, rfl, wpAny_letOwnedTupleGo_enum (s := { s with heap := h', toks := s.toks + 1 }) ho fun h'' he' sb => ?_⟩
    have hT2 : h''.get? s.heap.objs.size = some { cls := .type "tuple", data := .seq #[.int i s.toks, u] } := (sb.2 _ (Nat.ne_of_gt hel)).trans hT
    have new : ObjOk X.prog X.w (upd H s.heap.objs.size (.tup [.int (i : Nat), x])) h'' s.heap.objs.size (.tup [.int (i : Nat), x]) :=
      ⟨by show 2 ≤ sizeLine; decide, [.int i s.toks, u], .cons ⟨_, rfl⟩ (.cons ru .nil), ⟨_, hT2, rfl, _, rfl⟩⟩
    have I1 : Inv X pins σ (upd H s.heap.objs.size (.tup [.int (i : Nat), x])) { s with heap := h'', toks := s.toks + 1 } :=
      I.turnedNew (ch := [e, it]) (fun b ob hb q => (sb.2 b (fun z => hb (by simp [z]))).trans (hk b ob (fun z => hb (by simp [z])) (fun z => hb (by simp [z])) q)) hf (Nat.le_refl _) new
    refine ⟨.ref s.heap.objs.size, _, I1, rfl, ⟨_, x, rfl, I.hok.fresh (Nat.le_refl _), rfl, fun ys hy => by rw [I.list_inj hy hq]; exact hx⟩, ⟨⟨u, ?_⟩, hit'.at fun o q => (sb.2 it (Ne.symm hne)).trans q, hne⟩, fun b hb => ?_⟩
    · have e1 : ((i + 1 : Nat) : Int) = (i : Int) + 1 := by omega
      rw [e1]; exact he'
    · have hb' : b < s.heap.objs.size := by
        have e' : b = e ∨ b = it := by simpa using hb
        rcases e' with z | z
        · rw [z]; exact hel
        · rw [z]; exact hil
      rw [upd_ne (Nat.ne_of_lt hb')]
      exact (hf b hb).1
  done := by
    intro X hP hw hK hc i pins s σ H E I hf st hg
    subst hP hw hK
    obtain ⟨⟨old, he⟩, hit, hne⟩ := st
    obtain ⟨xs, hq, hx⟩ := hg
    obtain ⟨its, rv, p, hz⟩ := I.list hq
    obtain ⟨f0, f1, f2, f3, f4, f5⟩ := hf it (by simp)
    have hl := rv.length
    exact wpAny_pyNext_enum_end (I.ok.hd hc) he hit p.isList (by simp; omega) fun h' eb => ⟨rfl, I.turned (t' := s.toks) (fun b o hb q => eb b o hb q) f0 f1 f3 f4 f5⟩
  self := fun A i s Q E st h => let ⟨⟨_, he⟩, _⟩ := st; wpAny_pyIter_enum he h
def iEnum (K : PySem.W.Frag) (ta : TA) : TI := fun σ H R => ta σ H fun vs H1 => ∃ a xs, vs = [.ref a] ∧ SqL K H1 a xs ∧ R (Ite K a) H1
theorem pi_enum {X : Cx} {e : Expr} {ta : TA} {p pos tpos : Pos} {elts : List Expr} {kk : Nat} (hg : Gl X "enumerate") (hm : X.mg "enumerate" = none) (ha : PA X [e] ta) (hs : starEach [e] X.env = [(false, eval e X.env)] := by rfl) :
    PI X (.Tuple elts kk tpos) (.Call (.Name "enumerate" p) [e] [] pos) (iEnum X.K ta) := by
  intro pins s σ H R I h
  refine Call_ (ld_blt I hg hm boot_enumerate (PyProof.Rows.callWith_type1 (thn (ha pos pins s σ H _ I h) fun us s1 ⟨vs, H1, I1, r1, q1⟩ => ?_) hs rfl))
  obtain ⟨a, xs, ex, hq, q⟩ := q1
  subst ex
  cases r1 with
  | cons r rr =>
    cases rr
    cases r
    obtain ⟨its, rv, p', hz⟩ := I1.list hq
    refine call_enumerate_list p'.isList fun h' he hit hsz hk => wpAny_pyIter_enum he ?_
    have I2 : Inv X pins σ H1 { s1 with heap := h' } := I1.kept (t' := s1.toks) hk
    refine ⟨s1.heap.objs.size + 1, [s1.heap.objs.size + 1, s1.heap.objs.size], _, _, H1, rfl, I2, turn_enum a (s1.heap.objs.size + 1) s1.heap.objs.size, ⟨⟨.none, he⟩, hit, Nat.succ_ne_self _⟩, fun b hb => ?_, q⟩
    have e' : b = s1.heap.objs.size + 1 ∨ b = s1.heap.objs.size := by simpa using hb
    have hle : s1.heap.objs.size ≤ b := by
      rcases e' with z | z
      · rw [z]; exact Nat.le_add_right _ _
      · rw [z]; exact Nat.le_refl _
    exact I1.fpOk hle (I1.hok.fresh hle)
theorem boot_zip5 : bootBuiltins "zip" = some (.type "zip") := by decide +kernel
def Itz (K : PySem.W.Frag) (a b : Addr) : It :=
  ⟨fun i H => ∃ (xs ys : List V) (x y : V), SqL K H a xs ∧ SqL K H b ys ∧ xs[i]? = some x ∧ ys[i]? = some y,
    fun i H v H' => ∃ T x y, v = .ref T ∧ H T = none ∧ H' = upd H T (.tup [x, y]) ∧ (∀ xs, SqL K H a xs → xs[i]? = some x) ∧ ∀ ys, SqL K H b ys → ys[i]? = some y,
    fun i H => ∃ xs ys : List V, SqL K H a xs ∧ SqL K H b ys ∧ (xs.length ≤ i ∨ ys.length ≤ i)⟩
theorem turn_zip {P : Program} {w : World} {K : PySem.W.Frag} {elts : List Expr} {kk : Nat} {tpos : Pos} {a b z TI TO i1 i2 : Addr} (D : ZipApart z TI TO i1 i2 a b) :
    Turn P w K (.Tuple elts kk tpos) (Itz K a b) [z, TI, TO, i1, i2] z (fun i h => IsZip h z TI TO .none ∧ IsPair h TI (.ref i1) (.ref i2) ∧ (∃ x y, IsPair h TO x y) ∧ h.IsListIter i1 a i ∧ h.IsListIter i2 b i) where
  mem := by simp
  obj := fun i h st c hc => by
    obtain ⟨hz, hTI, ⟨x, y, hTO⟩, ⟨o1, e1, _, d1⟩, ⟨o2, e2, _, d2⟩⟩ := st
    have e' : c = z ∨ c = TI ∨ c = TO ∨ c = i1 ∨ c = i2 := by simpa using hc
    rcases e' with q | q | q | q | q
    · rw [q]; exact ⟨_, hz, fun v q => nomatch q⟩
    · rw [q]; exact ⟨_, hTI, fun v q => nomatch q⟩
    · rw [q]; exact ⟨_, hTO, fun v q => nomatch q⟩
    · rw [q]; exact ⟨o1, e1, fun v q => by rw [d1] at q; cases q⟩
    · rw [q]; exact ⟨o2, e2, fun v q => by rw [d2] at q; cases q⟩
  keep := fun i h h' st k => by
    obtain ⟨hz, hTI, ⟨x, y, hTO⟩, h1, h2⟩ := st
    exact ⟨k z (by simp) _ hz, k TI (by simp) _ hTI, ⟨x, y, k TO (by simp) _ hTO⟩, h1.at fun o q => k i1 (by simp) o q, h2.at fun o q => k i2 (by simp) o q⟩
  item := by
    intro X hP hw hK hc i pins s σ H E I hf st hg
    subst hP hw hK
    obtain ⟨hz, hTI, ⟨x0, y0, hTO⟩, h1, h2⟩ := st
    obtain ⟨xs, ys, x, y, hqx, hqy, hx, hy⟩ := hg
    obtain ⟨its, rv, p, _⟩ := I.list hqx
    obtain ⟨its2, rv2, p2, _⟩ := I.list hqy
    obtain ⟨u, hu, ru⟩ := rv.get hx
    obtain ⟨u2, hu2, ru2⟩ := rv2.get hy
    have hzl : z < s.heap.objs.size := Heap.lt_size hz
    refine wpAny_pyNext_zip_item D hz hTI hTO h1 h2 p.isList p2.isList (x := u) (y := u2) (by simpa using hu) (by simpa using hu2) fun h' z' TO' h1' h2' hT hsz hk => ?_
    refine ⟨_, rfl, wpAny_letOwnedTupleGo_zip (s := { s with heap := h' }) z' fun h'' z'' sb => ?_⟩
    have hT2 : h''.get? s.heap.objs.size = some { cls := .type "tuple", data := .seq #[u, u2] } := (sb.2 _ (Nat.ne_of_gt hzl)).trans hT
    have new : ObjOk X.prog X.w (upd H s.heap.objs.size (.tup [x, y])) h'' s.heap.objs.size (.tup [x, y]) :=
      ⟨by show 2 ≤ sizeLine; decide, [u, u2], .cons ru (.cons ru2 .nil), ⟨_, hT2, rfl, _, rfl⟩⟩
    have I1 : Inv X pins σ (upd H s.heap.objs.size (.tup [x, y])) { s with heap := h'' } :=
      I.turnedNew (t' := s.toks) (ch := [z, TI, TO, i1, i2]) (fun c o hb q => (sb.2 c (fun q' => hb (by simp [q']))).trans (hk c o (fun q' => hb (by simp [q'])) (fun q' => hb (by simp [q'])) (fun q' => hb (by simp [q'])) (fun q' => hb (by simp [q'])) q)) hf (Nat.le_refl _) new
    refine ⟨.ref s.heap.objs.size, _, I1, rfl, ⟨_, x, y, rfl, I.hok.fresh (Nat.le_refl _), rfl, fun l hl => by rw [I.list_inj hl hqx]; exact hx, fun l hl => by rw [I.list_inj hl hqy]; exact hy⟩, ⟨z'', ?_, ⟨u, u2, ?_⟩, ?_, ?_⟩, fun c hcm => ?_⟩
    · exact (sb.2 _ D.TIz).trans (hk _ _ D.TIz D.TITO D.TIi1 D.TIi2 hTI)
    · exact (sb.2 _ D.TOz).trans TO'
    · exact h1'.at fun o q => (sb.2 _ D.i1z).trans q
    · exact h2'.at fun o q => (sb.2 _ D.i2z).trans q
    · have hlt : c < s.heap.objs.size := by
        have e' : c = z ∨ c = TI ∨ c = TO ∨ c = i1 ∨ c = i2 := by simpa using hcm
        rcases e' with q | q | q | q | q
        · rw [q]; exact hzl
        · rw [q]; exact Heap.lt_size hTI
        · rw [q]; exact Heap.lt_size hTO
        · rw [q]; obtain ⟨_, e1, _⟩ := h1; exact Heap.lt_size e1
        · rw [q]; obtain ⟨_, e2, _⟩ := h2; exact Heap.lt_size e2
      rw [upd_ne (Nat.ne_of_lt hlt)]
      exact (hf c hcm).1
  done := by
    intro X hP hw hK hc i pins s σ H E I hf st hg
    subst hP hw hK
    obtain ⟨hz, hTI, ⟨x0, y0, hTO⟩, h1, h2⟩ := st
    obtain ⟨xs, ys, hqx, hqy, hend⟩ := hg
    obtain ⟨its, rv, p, _⟩ := I.list hqx
    obtain ⟨its2, rv2, p2, _⟩ := I.list hqy
    have l1 := rv.length
    have l2 := rv2.length
    have he : its.toArray[i]? = none ∨ its2.toArray[i]? = none := by
      rcases hend with q | q
      · exact .inl (by simp; omega)
      · exact .inr (by simp; omega)
    exact wpAny_pyNext_zip_end (I.ok.hd hc) D hz hTI hTO h1 h2 p.isList p2.isList he fun h' hk => ⟨rfl, I.turnedL (t' := s.toks) (ch := [z, TI, TO, i1, i2]) (fun c o hb q =>
      hk c o (fun q' => hb (by simp [q'])) (fun q' => hb (by simp [q'])) (fun q' => hb (by simp [q'])) (fun q' => hb (by simp [q'])) q) hf⟩
  self := fun A i s Q E st h => wpAny_pyIter_zip st.1 h
def iZip (K : PySem.W.Frag) (ta : TA) : TI := fun σ H R => ta σ H fun vs H1 => ∃ a b xs ys, vs = [.ref a, .ref b] ∧ SqL K H1 a xs ∧ SqL K H1 b ys ∧ R (Itz K a b) H1
theorem pi_zip {X : Cx} {e e2 : Expr} {ta : TA} {p pos tpos : Pos} {elts : List Expr} {kk : Nat} (hg : Gl X "zip") (hm : X.mg "zip" = none) (ha : PA X [e, e2] ta)
    (hs : starEach [e, e2] X.env = (false, eval e X.env) :: starEach [e2] X.env := by rfl) (hpl : (backTo pos (starEach [e2] X.env)).any (·.1) = false := by rfl) :
    PI X (.Tuple elts kk tpos) (.Call (.Name "zip" p) [e, e2] [] pos) (iZip X.K ta) := by
  intro pins s σ H R I h
  refine Call_ (ld_blt I hg hm boot_zip5 (PyProof.Rows.callWith_type1 (thn (ha pos pins s σ H _ I h) fun us s1 ⟨vs, H1, I1, r1, q1⟩ => ?_) hs hpl))
  obtain ⟨a, b, xs, ys, ex, hqx, hqy, q⟩ := q1
  subst ex
  cases r1 with
  | cons r rr =>
    cases rr with
    | cons r' rr =>
      cases rr
      cases r
      cases r'
      obtain ⟨its, rv, p1, _⟩ := I1.list hqx
      obtain ⟨its2, rv2, p2, _⟩ := I1.list hqy
      have la : a < s1.heap.objs.size := p1.lt
      have lb : b < s1.heap.objs.size := p2.lt
      refine call_zip_2 p1.isList p2.isList fun h' hz hTI hTO h1 h2 hsz hk => wpAny_pyIter_zip hz ?_
      have I2 : Inv X pins σ H1 { s1 with heap := h' } := I1.kept (t' := s1.toks) hk
      refine ⟨s1.heap.objs.size + 4, [s1.heap.objs.size + 4, s1.heap.objs.size + 2, s1.heap.objs.size + 3, s1.heap.objs.size, s1.heap.objs.size + 1], _, _, H1, rfl, I2, turn_zip (PySem.W.ktu_apart s1.heap.objs.size a b la lb), ⟨hz, hTI, ⟨_, _, hTO⟩, h1, h2⟩, fun c hcm => ?_, q⟩
      have e' : c = s1.heap.objs.size + 4 ∨ c = s1.heap.objs.size + 2 ∨ c = s1.heap.objs.size + 3 ∨ c = s1.heap.objs.size ∨ c = s1.heap.objs.size + 1 := by simpa using hcm
      have hle : s1.heap.objs.size ≤ c := by
        rcases e' with z | z | z | z | z
        · rw [z]; exact Nat.le_add_right _ _
        · rw [z]; exact Nat.le_add_right _ _
        · rw [z]; exact Nat.le_add_right _ _
        · rw [z]; exact Nat.le_refl _
        · rw [z]; exact Nat.le_add_right _ _
      exact I1.fpOk hle (I1.hok.fresh hle)
end L2
section 
namespace Bits
open PySem PyProof.Rows
theorem bitAnd_mask {x : Int} (k : Nat) (hx : 0 ≤ x) : Builtin.bitAnd x (2 ^ k - 1) = x % 2 ^ k := by
  obtain ⟨n, rfl⟩ := Int.eq_ofNat_of_zero_le hx
  have hp : 0 < 2 ^ k := Nat.two_pow_pos k
  rw [two_pow_cast]
  have e : ((2 ^ k : Nat) : Int) - 1 = ((2 ^ k - 1 : Nat) : Int) := by
    generalize (2 : Nat) ^ k = m at hp
    omega
  rw [e, bitAnd_pp (by omega) (by omega), Int.toNat_natCast, Int.toNat_natCast, Nat.and_two_pow_sub_one_eq_mod]
  first
    | rfl
    | exact Int.natCast_emod _ _
    | simp
end Bits
end 
section 
namespace TL
open PySem PySem.Builtin PySem.Builtin.Str PySem.StrLaws
end TL
end 
namespace L2
open PySem PySem.Spec PyProof.Rows
section
variable {X : Cx} {pins : List (Addr × Obj)} {σ : St} {H : Hp} {s : Shared} {Q : VK}
end
section
variable {X : Cx}
end
section
variable {X : Cx} {o e : Expr} {to te : TE}
end
end L2
namespace L2
open PySem PySem.Spec PyProof.Rows
section
variable {X : Cx}
end
end L2
namespace Att
open PySem PySem.W PySem.Calls PyProof.Rows
section
variable {prog : Program} {w : World} {A : Around} {E : Value → Shared → Prop} {s : Shared} {K : Frag}
end
end Att
namespace L2
open PySem PySem.Spec PyProof.Rows
end L2
namespace L2
open PySem PySem.Spec PyProof.Rows
end L2
/- THE LAST THEOREM (shape; LID, My.* are yours):
   My.Adr: a structure of the addresses that your layer names (classes, functions); My.Txt K t: a structure (Prop) of the equations over K;
   My.txt_mk : {K} {implicit addresses ..} (e1 : nsIn K mainGlobals "law" = some (some (.ref f))) (e2 : K.lookup f = some ⟨oc, od, .func (fnOf "law" "law" params body scope dV kV doc pm an cdv ct), sl⟩) (e3 : codeIn K cdv "law" = true) .. : ∃ t, My.Txt K t
set_option maxRecDepth 100000 in
set_option maxHeartbeats 0 in
theorem PySem.Challenge.cw_LID_holds : PySem.Challenge.rw_LID.Holds := by
  w_on; o_law; k_head; (case hw => w_witness2)
  k_fill
  refine L2.walk_of (l := PySem.Challenge.rw_LID) (n := 63) (k := 40) (x := "script") (CX := fun w => ..) (sp := fun _ => My.sp_law) rfl (by decide) rfl ⟨rfl, by decide, by decide⟩ (fun w h Y => PySem.W.kIn_of Y) ?F ?S ?C
  case F =>
    intro w mg fa h KX G hmg
    have T : ∃ t, My.Txt (L2.KOf KX) t := by
      dsimp only [L2.KOf]                          -- K must stand as «<heap const> w.params» for k_is
      refine' My.txt_mk ?e1 ?e2 ?e3 ..
      (case e1 => PySem.W.k_is)                    -- in the order: a name -> its address -> its object -> its parts
      (case e2 => PySem.W.k_is)
      ..
    obtain ⟨t, T⟩ := T
    have e0 := hmg.symm.trans (PySem.W.mg_of KX G T.law)
    cases e0                                       -- fa is the law's own address
    exact ⟨_, fun s u => .of_eq rfl, fun base kb nb => My.law_fn T kb nb⟩     -- if «.of_eq rfl» comes too early: refine' ⟨_, ?b, fun base kb nb => My.law_fn T kb nb⟩; exact fun s u => .of_eq rfl
  case S => exact fun w H a ns hl hO hS => ..
  case C => exact ..
(the tactic k_is has no namespace: write k_is) -/
namespace L2
open PySem PySem.Spec PyProof.Rows
def inClass (s : Stmt) (j : Nat) : Stmt := match s with
  | .ClassDef _ _ _ body _ _ _ _ _ _ _ => body.getD j (.Pass ⟨0, 0, 0, 0⟩)
  | _ => .Pass ⟨0, 0, 0, 0⟩
def defArgs (s : Stmt) : Arguments := match s with
  | .FunctionDef _ a _ _ _ _ _ _ _ _ => a
  | _ => { posonlyargs := [], args := [], vararg := none, kwonlyargs := [], kw_defaults := [], kwarg := none, defaults := [] }
def defBody (s : Stmt) : List Stmt := match s with
  | .FunctionDef _ _ b _ _ _ _ _ _ _ => b
  | _ => []
def defScope (s : Stmt) : Scope := match s with
  | .FunctionDef _ _ _ _ _ _ sc _ _ _ => sc
  | _ => { kind := .function, names := [], isGenerator := false, isCoroutine := false }
abbrev CX0 : CXT := fun _ _ _ _ _ _ => False
abbrev E0 : XK := fun _ _ _ => False
theorem pass0 {X : Cx} : Passes CX0 X E0 := fun _ _ _ _ _ _ _ h => h.elim
structure Fun (K : PySem.W.Frag) (x qual : Str) (st : Stmt) (f : Addr) (fd : FuncData) : Prop where
  ex : ∃ (oc : Value) (od : Option Addr) (kV doc pm : Value) (an : Option Addr) (cdv ct : Value) (osl : Array (Option Value)),
    fd = PySem.W.fnOf x qual (defArgs st) (defBody st) (defScope st) .none kV doc pm an cdv ct ∧ K.lookup f = some ⟨oc, od, .func fd, osl⟩ ∧ PySem.W.codeIn K cdv qual = true
  kp : PySem.W.keepIn K (.ref f) = true
section
variable {P : Program} {w : World} {K : PySem.W.Frag} {mg : Str → Option Value} {base : Heap}
theorem Fun.ok {x qual : Str} {st : Stmt} {f : Addr} {fd : FuncData} {N ps : List Str} {k : Nat} {sp : Sp} (F : Fun K x qual st f fd) (S : FnScope N ps (defScope st)) (len : ∀ vs H Q E, sp vs H Q E → vs.length = ps.length)
    (hbody : ∀ (cdv : Value) (A : Around) (outer : List Env) (s : Shared) (H : Hp) (vs : List V) (Q : VK) (E : XK), Room k (A.deeper (envOfC qual (defScope st) s.heap.objs.size f cdv)) → sp vs H Q E →
      ∃ t, PSs (cxOf CX0 P w K mg base N qual (defScope st) f cdv A outer s H E).nox (defBody st) t ∧ t { nx := fun _ H' => Q .non H', rt := Q } (start N vs) H) : FnOk P w K mg base CX0 (k + 1) f fd ps sp := by
  obtain ⟨oc, od, kV, doc, pm, an, cdv, ct, osl, rfl, lk, hcd⟩ := F.ex
  refine fn_of lk hcd S len fun A outer s H vs Q E hr hsp => ?_
  obtain ⟨t, h, q⟩ := hbody cdv A outer s H vs Q E hr hsp
  exact ⟨t, h.nox, q⟩
theorem Fun.binds {x qual : Str} {st : Stmt} {f : Addr} {fd : FuncData} {ps : List Str} (F : Fun K x qual st f fd)
    (h : ∀ (kV doc pm : Value) (an : Option Addr) (cdv ct : Value) (us : List Value), us.length = ps.length → bindArgs (PySem.W.fnOf x qual (defArgs st) (defBody st) (defScope st) .none kV doc pm an cdv ct) ⟨us, []⟩ = pure (ps.zip us)) : Binds K fd ps [] := by
  obtain ⟨oc, od, kV, doc, pm, an, cdv, ct, osl, rfl, lk, hcd⟩ := F.ex
  exact .all (h kV doc pm an cdv ct)
theorem fun_mk {x qual : Str} {st : Stmt} {f : Addr} {oc : Value} {od an : Option Addr} {osl : Array (Option Value)} {kV doc pm cdv ct : Value} (l : K.lookup f = some ⟨oc, od, .func (PySem.W.fnOf x qual (defArgs st) (defBody st) (defScope st) .none kV doc pm an cdv ct), osl⟩)
    (c : PySem.W.codeIn K cdv qual = true) (k : PySem.W.keepIn K (.ref f) = true) : Fun K x qual st f (PySem.W.fnOf x qual (defArgs st) (defBody st) (defScope st) .none kV doc pm an cdv ct) := ⟨⟨oc, od, kV, doc, pm, an, cdv, ct, osl, rfl, l, c⟩, k⟩
end
theorem hu_of {A : Around} {k : Nat} (hr : Room k A) : A.units + 1 < cLine := Nat.lt_of_le_of_lt (Nat.add_le_add_left (by decide : 1 ≤ 64) _) hr.units
theorem small1000 {n : Nat} (h : n ≤ 1000) : n < sizeLine := Nat.lt_of_le_of_lt h (by decide)
section
variable {X : Cx}
theorem pv (i : Nat) {x : Str} {pos : Pos} (hN : X.N[i]? = some x := by rfl) (hv : Vis X.env.scope x := by first | exact Or.inl rfl | exact Or.inr (Or.inl rfl) | exact Or.inr (Or.inr rfl)) (hd : (x == ("__debug__" : Str)) = false := by decide)
    (hcd : (x == ("__classdict__" : Str)) = false := by decide) : PE X (.Name x pos) (tVar i) := pe_var hN hv hd hcd
end
theorem iteF {A B : Prop} (h : B) : if false = true then A else B := by
  rw [if_neg Bool.false_ne_true]
  exact h
theorem iteT {A B : Prop} (h : A) : if true = true then A else B := by
  rw [if_pos rfl]
  exact h
theorem ite2 {c A B : Prop} [Decidable c] (h1 : c → A) (h2 : ¬ c → B) : if c then A else B := by
  by_cases h : c
  · rw [if_pos h]
    exact h1 h
  · rw [if_neg h]
    exact h2 h
def Same (H H' : Hp) : Prop := ∀ b o, H b = some o → H' b = some o
theorem Same.refl (H : Hp) : Same H H := fun _ _ h => h
theorem Same.trans {H H1 H2 : Hp} (a : Same H H1) (b : Same H1 H2) : Same H H2 := fun c o h => b c o (a c o h)
theorem Same.free {H H' : Hp} (e : Same H H') {l : Addr} (h : H' l = Option.none) : H l = Option.none := by
  cases q : H l with
  | none => rfl
  | some o =>
    rw [e l o q] at h
    cases h
theorem Same.seq {K : PySem.W.Frag} {H H' : Hp} {a : Addr} {xs : List V} (e : Same H H') (h : SqL K H a xs) : SqL K H' a xs := by
  rcases h with (h | ⟨o, h⟩) | h
  · exact .inl (.inl (e _ _ h))
  · exact .inl (.inr ⟨o, e _ _ h⟩)
  · exact .inr h
section
variable {κ : Type} [DecidableEq κ]
end
theorem at_of {xs : List V} {z : Int} {j : Nat} {v : V} (e : z = (j : Int)) (h : xs[j]? = some v) : atI xs z = some v := by
  rw [e]
  exact atI_nat h
theorem Same.made {H H1 : Hp} {x dx C : Addr} (nx : H x = Option.none) (nd : H dx = Option.none) (k : ∀ b o, (upd (upd H dx (.own x)) x (.ins C dx [])) b = some o → b ≠ x → H1 b = some o) : Same H H1 := fun b o e =>
  k b o (by rw [upd_ne (ne_of_none e nx), upd_ne (ne_of_none e nd)]; exact e) (ne_of_none e nx)
end L2
section
set_option Elab.async false
set_option linter.all false
set_option maxRecDepth 100000
set_option maxHeartbeats 2000000
namespace L2
open PySem PySem.Spec PyProof.Rows
open PySem.W (WData Codec OpenSpec Well WellAll ReadsW ReadsAllW)
mutual
inductive Dw (K : PySem.W.Frag) (H : Hp) : V → WData → Prop
  | non : Dw K H .non .none
  | bl (b : Bool) : Dw K H (.bl b) (.bool b)
  | int (i : Int) : Dw K H (.int i) (.int i)
  | str (x : Str) : Dw K H (.str x) (.str x)
  | byt (b : Array UInt8) : Dw K H (.byt b) (.bytes b.toList)
  | lst {a : Addr} {xs : List V} {ds : List WData} : SqL K H a xs → DwAll K H xs ds → Dw K H (.ref a) (.list ds)
  | tup {a : Addr} {xs : List V} {ds : List WData} : SqT K H a xs → DwAll K H xs ds → Dw K H (.ref a) (.tuple ds)
inductive DwAll (K : PySem.W.Frag) (H : Hp) : List V → List WData → Prop
  | nil : DwAll K H [] []
  | cons {v : V} {vs : List V} {d : WData} {ds : List WData} : Dw K H v d → DwAll K H vs ds → DwAll K H (v :: vs) (d :: ds)
end
theorem dw_ints {K : PySem.W.Frag} {H : Hp} : ∀ ns : List Int, DwAll K H (ns.map V.int) (ns.map WData.int)
  | [] => .nil
  | n :: r => .cons (.int n) (dw_ints r)
theorem ints_dw {K : PySem.W.Frag} {H : Hp} : ∀ (ns : List Int) (xs : List V), DwAll K H xs (ns.map WData.int) → xs = ns.map V.int
  | [], xs, h => by
    cases h
    rfl
  | n :: r, xs, h => by
    cases h with
    | cons h1 h2 =>
      cases h1
      rw [ints_dw r _ h2] <;> rfl
section
variable {P : Program} {w : World} {K : PySem.W.Frag} {H : Hp} {h : Heap} {R : PySem.W.WRecords} {cl : Str → Option Addr}
theorem sqL_at {a : Addr} {xs : List V} (hok : HOk P w H h) (KX : K.In h) (q : SqL K H a xs) : ∃ (its : List Value) (o : Obj) (n : Nat), Vals xs its ∧ h.get? a = some o ∧ o.cls = .type "list" ∧ o.data = .seq its.toArray n := by
  rcases q with q | ⟨o, its, n, e, hc, _, hd, _, hv⟩
  · obtain ⟨_, its, n, hv, e⟩ := (show ObjOk P w H h a (.lst xs) from q.ok hok)
    exact ⟨its, _, n, hv, e, rfl, rfl⟩
  · exact ⟨its.toList, o, n, hv, KX _ _ e, hc, by simp [hd]⟩
theorem sqT_at {a : Addr} {xs : List V} (hok : HOk P w H h) (KX : K.In h) (q : SqT K H a xs) : ∃ (its : List Value) (o : Obj) (n : Nat), Vals xs its ∧ h.get? a = some o ∧ o.cls = .type "tuple" ∧ o.data = .seq its.toArray n := by
  rcases q with q | ⟨o, its, n, e, hc, hd, _, hv⟩
  · obtain ⟨_, its, hv, o, e, hc, n, hd⟩ := (show ObjOk P w H h a (.tup xs) from q.ok hok)
    exact ⟨its, o, n, hv, e, hc, hd⟩
  · exact ⟨its.toList, o, n, hv, KX _ _ e, hc, by simp [hd]⟩
mutual
theorem Dw.reads (hok : HOk P w H h) (KX : K.In h) : ∀ (d : WData) (v : V) (u : Value), Dw K H v d → RelV v u → ∃ as, ReadsW R cl h u d as
  | .none, _, _, x, r => by
    cases x
    cases r
    exact ⟨_, ReadsW.none⟩
  | .bool b, _, _, x, r => by
    cases x
    cases r
    exact ⟨_, ReadsW.bool b⟩
  | .int i, _, _, x, r => by
    cases x
    obtain ⟨t, rfl⟩ := r
    exact ⟨_, ReadsW.int i t⟩
  | .str s, _, _, x, r => by
    cases x
    obtain ⟨t, rfl⟩ := r
    exact ⟨_, ReadsW.str s t⟩
  | .bytes b, _, _, x, r => by
    cases x
    obtain ⟨t, rfl⟩ := r
    exact ⟨_, ReadsW.bytes _ t⟩
  | .list ds, _, _, x, r => by
    cases x with
    | lst hs ha =>
      cases r
      obtain ⟨its, o, n, rv, ho, hc, hd⟩ := sqL_at hok KX hs
      obtain ⟨as, hr⟩ := Dw.readsAll hok KX ds _ its ha rv
      exact ⟨_, ReadsW.list ho hc hd hr⟩
  | .tuple ds, _, _, x, r => by
    cases x with
    | tup hs ha =>
      cases r
      obtain ⟨its, o, n, rv, ho, hc, hd⟩ := sqT_at hok KX hs
      obtain ⟨as, hr⟩ := Dw.readsAll hok KX ds _ its ha rv
      exact ⟨_, ReadsW.tuple ho hc hd hr⟩
  | .float _, _, _, x, _ => by cases x
  | .dict _, _, _, x, _ => by cases x
  | .bytearray _, _, _, x, _ => by cases x
  | .set _, _, _, x, _ => by cases x
  | .frozenset _, _, _, x, _ => by cases x
  | .obj _ _, _, _, x, _ => by cases x
theorem Dw.readsAll (hok : HOk P w H h) (KX : K.In h) : ∀ (ds : List WData) (vs : List V) (us : List Value), DwAll K H vs ds → Vals vs us → ∃ as, ReadsAllW R cl h us ds as
  | [], _, _, x, r => by
    cases x
    cases r
    exact ⟨_, ReadsAllW.nil⟩
  | d :: ds, _, _, x, r => by
    cases x with
    | cons h1 h2 =>
      cases r with
      | cons r1 r2 =>
        obtain ⟨as, q1⟩ := Dw.reads hok KX d _ _ h1 r1
        obtain ⟨bs, q2⟩ := Dw.readsAll hok KX ds _ _ h2 r2
        exact ⟨_, ReadsAllW.cons q1 q2⟩
end
end
mutual
def plW : WData → Bool
  | .none => true
  | .bool _ => true
  | .int _ => true
  | .str _ => true
  | .bytes _ => true
  | .list xs => plWs xs
  | .tuple xs => plWs xs
  | _ => false
def plWs : List WData → Bool
  | [] => true
  | x :: r => plW x && plWs r
end
theorem plWs_map {α : Type} {f : α → WData} (h : ∀ a, plW (f a) = true) : ∀ l : List α, plWs (l.map f) = true
  | [] => rfl
  | x :: r => by
    show (plW (f x) && plWs (r.map f)) = true
    rw [h x, plWs_map h r] <;> rfl
theorem pl_enc : ∀ (c : Codec) (a : c.denote), plW (c.enc a) = true
  | .unit, _ => rfl
  | .bool, _ => rfl
  | .int _ _, _ => rfl
  | .nat _ _, _ => rfl
  | .u8, _ => rfl
  | .bytes _ _, _ => rfl
  | .text _ _ _ _, _ => rfl
  | .list _ _ c, a => plWs_map (fun x => pl_enc c x) a
  | .pair c d, a => by
    show (plW (c.enc a.1) && (plW (d.enc a.2) && true)) = true
    rw [pl_enc c a.1, pl_enc d a.2] <;> rfl
  | .triple c d e, a => by
    show (plW (c.enc a.1) && (plW (d.enc a.2.1) && (plW (e.enc a.2.2) && true))) = true
    rw [pl_enc c a.1, pl_enc d a.2.1, pl_enc e a.2.2] <;> rfl
  | .option c, none => rfl
  | .option c, some x => pl_enc c x
theorem pl_encAll : ∀ (cs : List Codec) (a : Codec.denoteAll cs), plWs (Codec.encAll cs a) = true
  | [], _ => rfl
  | c :: cs, a => by
    show (plW (c.enc a.1) && plWs (Codec.encAll cs a.2)) = true
    rw [pl_enc c a.1, pl_encAll cs a.2] <;> rfl
theorem weight_mem : ∀ {xs : List WData} {d : WData}, d ∈ xs → d.weight ≤ WData.weightAll xs
  | [], d, h => absurd h (by simp)
  | x :: r, d, h => by
    show d.weight ≤ x.weight + 1 + WData.weightAll r
    rcases List.mem_cons.mp h with e | m
    · rw [e]
      omega
    · have z := weight_mem m
      omega
def toV : Value → V
  | .none => .non
  | .bool b => .bl b
  | .int i _ => .int i
  | .str x _ => .str x
  | .bytes b _ => .byt b
  | .ref a => .ref a
  | _ => .non
def OkU (A : List Addr) : Value → Prop
  | .none => True
  | .bool _ => True
  | .int _ _ => True
  | .str _ _ => True
  | .bytes _ _ => True
  | .ref a => a ∈ A
  | _ => False
theorem OkU.mono {A B : List Addr} (h : ∀ a ∈ A, a ∈ B) : ∀ {u : Value}, OkU A u → OkU B u := fun {u} x => by
  cases u with
  | ref a => exact h a x
  | none => trivial
  | bool b => trivial
  | int i t => trivial
  | str s t => trivial
  | bytes b t => trivial
  | _ => exact False.elim x
theorem relV_toV {A : List Addr} {u : Value} (x : OkU A u) : RelV (toV u) u := by
  cases u with
  | ref a => rfl
  | none => rfl
  | bool b => rfl
  | int i t => exact ⟨t, rfl⟩
  | str s t => exact ⟨t, rfl⟩
  | bytes b t => exact ⟨t, rfl⟩
  | _ => exact False.elim x
theorem vals_toV {A : List Addr} : ∀ {vs : List Value}, (∀ u ∈ vs, OkU A u) → Vals (vs.map toV) vs
  | [], _ => .nil
  | u :: r, h => .cons (relV_toV (h u (List.mem_cons_self ..))) (vals_toV fun x hx => h x (List.mem_cons_of_mem _ hx))
def ArgOb (h : Heap) (A : List Addr) (a : Addr) : Prop := ∃ vs : List Value, vs.length ≤ sizeLine ∧ (∀ u ∈ vs, OkU A u) ∧
  (h.get? a = some { cls := .type "list", data := .seq vs.toArray } ∨ h.get? a = some { cls := .type "tuple", data := .seq vs.toArray })
theorem ArgOb.mono {h : Heap} {A B : List Addr} {a : Addr} (k : ∀ a ∈ A, a ∈ B) (x : ArgOb h A a) : ArgOb h B a := by
  obtain ⟨vs, h1, h2, h3⟩ := x
  exact ⟨vs, h1, fun u hu => (h2 u hu).mono k, h3⟩
theorem wellAll_len {P : Params} {h : Heap} : ∀ {vs : List Value} {ds : List WData}, WellAll P h vs ds → vs.length = ds.length
  | _, _, .nil => rfl
  | _, _, .cons _ b => by
    show _ + 1 = _ + 1
    rw [wellAll_len b]
theorem well_list {P : Params} {h : Heap} {v : Value} {ds : List WData} (x : Well P h v (.list ds)) : ∃ (a : Addr) (vs : List Value), v = .ref a ∧ h.get? a = some { cls := .type "list", data := .seq vs.toArray } ∧ WellAll P h vs ds := by
  cases x with
  | list ho hall => exact ⟨_, _, rfl, ho, hall⟩
theorem well_tuple {P : Params} {h : Heap} {v : Value} {ds : List WData} (x : Well P h v (.tuple ds)) : ∃ (a : Addr) (vs : List Value), v = .ref a ∧ h.get? a = some { cls := .type "tuple", data := .seq vs.toArray } ∧ WellAll P h vs ds := by
  cases x with
  | tuple ho hall => exact ⟨_, _, rfl, ho, hall⟩
theorem well_cons {P : Params} {h : Heap} {us : List Value} {d : WData} {ds : List WData} (x : WellAll P h us (d :: ds)) : ∃ (v : Value) (vs : List Value), us = v :: vs ∧ Well P h v d ∧ WellAll P h vs ds := by
  cases x with
  | cons a b => exact ⟨_, _, rfl, a, b⟩
theorem line_of {n : Nat} (h : n ≤ 1048576) : n ≤ sizeLine := Nat.le_trans h (by decide)
section
variable {P : Params} {h : Heap}
mutual
theorem area_one : ∀ (d : WData) (v : Value), Well P h v d → plW d = true → d.weight ≤ 1048576 → ∃ A : List Addr, OkU A v ∧ ∀ a ∈ A, ArgOb h A a
  | .none, _, x, _, _ => by
    cases x
    exact ⟨[], trivial, fun a m => absurd m (by simp)⟩
  | .bool b, _, x, _, _ => by
    cases x
    exact ⟨[], trivial, fun a m => absurd m (by simp)⟩
  | .int i, _, x, _, _ => by
    cases x
    exact ⟨[], trivial, fun a m => absurd m (by simp)⟩
  | .str s, _, x, _, _ => by
    cases x
    exact ⟨[], trivial, fun a m => absurd m (by simp)⟩
  | .bytes b, _, x, _, _ => by
    cases x
    exact ⟨[], trivial, fun a m => absurd m (by simp)⟩
  | .list ds, _, x, p, z => by
    obtain ⟨a, vs, rfl, ho, hall⟩ := well_list x
    have z2 : WData.weightAll ds ≤ 1048576 := z
    obtain ⟨A, h1, h2⟩ := area_all ds _ hall p fun d hd => Nat.le_trans (weight_mem hd) z2
    have k : ∀ b ∈ A, b ∈ a :: A := fun b hb => List.mem_cons_of_mem _ hb
    refine ⟨a :: A, List.mem_cons_self .., fun b hb => ?_⟩
    rcases List.mem_cons.mp hb with e | m
    · rw [e]
      exact ⟨vs, line_of (by rw [wellAll_len hall]; exact Nat.le_trans (PySem.W.length_le_weightAllW ds) z2), fun u hu => (h1 u hu).mono k, .inl ho⟩
    · exact (h2 b m).mono k
  | .tuple ds, _, x, p, z => by
    obtain ⟨a, vs, rfl, ho, hall⟩ := well_tuple x
    have z2 : WData.weightAll ds ≤ 1048576 := z
    obtain ⟨A, h1, h2⟩ := area_all ds _ hall p fun d hd => Nat.le_trans (weight_mem hd) z2
    have k : ∀ b ∈ A, b ∈ a :: A := fun b hb => List.mem_cons_of_mem _ hb
    refine ⟨a :: A, List.mem_cons_self .., fun b hb => ?_⟩
    rcases List.mem_cons.mp hb with e | m
    · rw [e]
      exact ⟨vs, line_of (by rw [wellAll_len hall]; exact Nat.le_trans (PySem.W.length_le_weightAllW ds) z2), fun u hu => (h1 u hu).mono k, .inr ho⟩
    · exact (h2 b m).mono k
  | .float _, _, _, p, _ => Bool.noConfusion (show false = true from p)
  | .dict _, _, _, p, _ => Bool.noConfusion (show false = true from p)
  | .bytearray _, _, _, p, _ => Bool.noConfusion (show false = true from p)
  | .set _, _, _, p, _ => Bool.noConfusion (show false = true from p)
  | .frozenset _, _, _, p, _ => Bool.noConfusion (show false = true from p)
  | .obj _ _, _, _, p, _ => Bool.noConfusion (show false = true from p)
theorem area_all : ∀ (ds : List WData) (vs : List Value), WellAll P h vs ds → plWs ds = true → (∀ d ∈ ds, d.weight ≤ 1048576) → ∃ A : List Addr, (∀ u ∈ vs, OkU A u) ∧ ∀ a ∈ A, ArgOb h A a
  | [], _, x, _, _ => by
    cases x
    exact ⟨[], fun u m => absurd m (by simp), fun a m => absurd m (by simp)⟩
  | d :: ds, _, x, p, z => by
    obtain ⟨v, vs, rfl, x1, x2⟩ := well_cons x
    have q : plW d = true ∧ plWs ds = true := Bool.and_eq_true_iff.mp p
    obtain ⟨A, a1, a2⟩ := area_one d v x1 q.1 (z d (List.mem_cons_self ..))
    obtain ⟨B, b1, b2⟩ := area_all ds vs x2 q.2 fun e he => z e (List.mem_cons_of_mem _ he)
    have kA : ∀ b ∈ A, b ∈ A ++ B := fun b hb => List.mem_append.mpr (.inl hb)
    have kB : ∀ b ∈ B, b ∈ A ++ B := fun b hb => List.mem_append.mpr (.inr hb)
    refine ⟨A ++ B, fun u hu => ?_, fun b hb => ?_⟩
    · rcases List.mem_cons.mp hu with e | m
      · rw [e]
        exact a1.mono kA
      · exact (b1 u m).mono kB
    · rcases List.mem_append.mp hb with m | m
      · exact (a2 b m).mono kA
      · exact (b2 b m).mono kB
end
end
def hoOf (o : Obj) : Option HO := match o.data with
  | .seq vs _ => if (o.cls == Value.type "list") = true then some (.frz o (.lst (vs.toList.map toV))) else some (.frz o (.tup (vs.toList.map toV)))
  | _ => none
def argH (K : PySem.W.Frag) (h : Heap) (A : List Addr) : Hp := fun b => if b ∈ A then (if (K.lookup b).isNone = true then (h.get? b).bind hoOf else none) else none
def OnlyF (H : Hp) : Prop := ∀ b, H b = none ∨ ∃ o u, H b = some (.frz o u)
theorem hoOf_lst (vs : List Value) : hoOf { cls := .type "list", data := .seq vs.toArray } = some (.frz { cls := .type "list", data := .seq vs.toArray } (.lst (vs.map toV))) := by
  show (if (Value.type "list" == Value.type "list") = true then some (HO.frz { cls := .type "list", data := .seq vs.toArray } (.lst (vs.toArray.toList.map toV))) else some (HO.frz { cls := .type "list", data := .seq vs.toArray } (.tup (vs.toArray.toList.map toV)))) = _
  rw [if_pos (beq_self_eq_true _)]
theorem hoOf_tup (vs : List Value) : hoOf { cls := .type "tuple", data := .seq vs.toArray } = some (.frz { cls := .type "tuple", data := .seq vs.toArray } (.tup (vs.map toV))) := by
  show (if (Value.type "tuple" == Value.type "list") = true then some (HO.frz { cls := .type "tuple", data := .seq vs.toArray } (.lst (vs.toArray.toList.map toV))) else some (HO.frz { cls := .type "tuple", data := .seq vs.toArray } (.tup (vs.toArray.toList.map toV)))) = _
  rw [if_neg (by decide)]
section
variable {P : Program} {w : World} {K : PySem.W.Frag} {h : Heap} {A : List Addr}
theorem argH_at {b : Addr} {o : Obj} (hb : b ∈ A) (hk : K.lookup b = none) (e : h.get? b = some o) : argH K h A b = hoOf o := by
  unfold argH
  rw [if_pos hb, hk, if_pos (show (none : Option Obj).isNone = true from rfl), e] <;> rfl
theorem of_argH {b : Addr} {u : HO} (q : argH K h A b = some u) : b ∈ A ∧ K.lookup b = none := by
  unfold argH at q
  by_cases hb : b ∈ A
  · rw [if_pos hb] at q
    cases hk : K.lookup b with
    | none => exact ⟨hb, rfl⟩
    | some o =>
      rw [hk, if_neg (by simp)] at q
      cases q
  · rw [if_neg hb] at q
    cases q
theorem argH_is (ar : ∀ a ∈ A, ArgOb h A a) {b : Addr} {u : HO} (q : argH K h A b = some u) : K.lookup b = none ∧ ∃ vs : List Value, vs.length ≤ sizeLine ∧ (∀ u ∈ vs, OkU A u) ∧
    ((h.get? b = some { cls := .type "list", data := .seq vs.toArray } ∧ u = .frz { cls := .type "list", data := .seq vs.toArray } (.lst (vs.map toV))) ∨
     (h.get? b = some { cls := .type "tuple", data := .seq vs.toArray } ∧ u = .frz { cls := .type "tuple", data := .seq vs.toArray } (.tup (vs.map toV)))) := by
  obtain ⟨hb, hk⟩ := of_argH q
  obtain ⟨vs, h1, h2, h3⟩ := ar b hb
  refine ⟨hk, vs, h1, h2, ?_⟩
  rcases h3 with e | e
  · rw [argH_at hb hk e, hoOf_lst] at q
    exact .inl ⟨e, (Option.some.inj q).symm⟩
  · rw [argH_at hb hk e, hoOf_tup] at q
    exact .inr ⟨e, (Option.some.inj q).symm⟩
theorem argH_only (ar : ∀ a ∈ A, ArgOb h A a) : OnlyF (argH K h A) := fun b => by
  cases q : argH K h A b with
  | none => exact .inl rfl
  | some u =>
    obtain ⟨_, vs, _, _, ⟨_, e⟩ | ⟨_, e⟩⟩ := argH_is ar q
    · exact .inr ⟨_, _, by rw [e]⟩
    · exact .inr ⟨_, _, by rw [e]⟩
theorem argH_ok (ar : ∀ a ∈ A, ArgOb h A a) : HOk P w (argH K h A) h := fun b u q => by
  obtain ⟨_, vs, h1, h2, ⟨e, rfl⟩ | ⟨e, rfl⟩⟩ := argH_is ar q
  · exact ⟨e, by rw [List.length_map]; exact h1, vs, _, vals_toV h2, e⟩
  · exact ⟨e, by rw [List.length_map]; exact h1, vs, vals_toV h2, _, e, rfl, _, rfl⟩
theorem seq_inj {c c' : Value} {vs us : List Value} (e : (some { cls := c, data := .seq vs.toArray } : Option Obj) = some { cls := c', data := .seq us.toArray }) : c = c' ∧ vs = us := by
  have e1 := Option.some.inj e
  have e2 : c = c' := congrArg Obj.cls e1
  have e3 : Data.seq vs.toArray = Data.seq us.toArray := congrArg Obj.data e1
  injection e3 with e4
  refine ⟨e2, ?_⟩
  have e5 := congrArg Array.toList e4
  simpa using e5
theorem argL (KX : K.In h) (ar : ∀ a ∈ A, ArgOb h A a) {a : Addr} {vs : List Value} (ha : a ∈ A) (e : h.get? a = some { cls := .type "list", data := .seq vs.toArray }) : (∀ u ∈ vs, OkU A u) ∧ SqL K (argH K h A) a (vs.map toV) := by
  obtain ⟨us, h1, h2, h3⟩ := ar a ha
  have hu : us = vs := by
    rcases h3 with q | q
    · rw [e] at q
      exact (seq_inj q).2.symm
    · rw [e] at q
      exact absurd (Value.type.inj (seq_inj q).1) (by decide)
  subst hu
  refine ⟨h2, ?_⟩
  cases hk : K.lookup a with
  | none => exact .inl (.inr ⟨_, by rw [argH_at ha hk e, hoOf_lst]⟩)
  | some o =>
    have e2 := KX a o hk
    rw [e] at e2
    obtain rfl := Option.some.inj e2
    exact .inr ⟨_, us.toArray, _, hk, rfl, rfl, rfl, by rw [List.size_toArray]; exact h1, by simpa using vals_toV h2⟩
theorem argT (KX : K.In h) (ar : ∀ a ∈ A, ArgOb h A a) {a : Addr} {vs : List Value} (ha : a ∈ A) (e : h.get? a = some { cls := .type "tuple", data := .seq vs.toArray }) : (∀ u ∈ vs, OkU A u) ∧ SqT K (argH K h A) a (vs.map toV) := by
  obtain ⟨us, h1, h2, h3⟩ := ar a ha
  have hu : us = vs := by
    rcases h3 with q | q
    · rw [e] at q
      exact absurd (Value.type.inj (seq_inj q).1) (by decide)
    · rw [e] at q
      exact (seq_inj q).2.symm
  subst hu
  refine ⟨h2, ?_⟩
  cases hk : K.lookup a with
  | none => exact .inl (.inr ⟨_, by rw [argH_at ha hk e, hoOf_tup]⟩)
  | some o =>
    have e2 := KX a o hk
    rw [e] at e2
    obtain rfl := Option.some.inj e2
    exact .inr ⟨_, us.toArray, _, hk, rfl, rfl, by rw [List.size_toArray]; exact h1, by simpa using vals_toV h2⟩
mutual
theorem dw_one {Pm : Params} (KX : K.In h) (ar : ∀ a ∈ A, ArgOb h A a) : ∀ (d : WData) (v : Value), Well Pm h v d → plW d = true → OkU A v → Dw K (argH K h A) (toV v) d
  | .none, _, x, _, _ => by
    cases x
    exact .non
  | .bool b, _, x, _, _ => by
    cases x
    exact .bl b
  | .int i, _, x, _, _ => by
    cases x
    exact .int i
  | .str s, _, x, _, _ => by
    cases x
    exact .str s
  | .bytes b, _, x, _, _ => by
    cases x
    have z := Dw.byt (K := K) (H := argH K h A) b.toArray
    exact z
  | .list ds, _, x, p, hu => by
    obtain ⟨a, vs, rfl, ho, hall⟩ := well_list x
    obtain ⟨h2, hs⟩ := argL KX ar hu ho
    exact .lst hs (dw_all KX ar ds _ hall p h2)
  | .tuple ds, _, x, p, hu => by
    obtain ⟨a, vs, rfl, ho, hall⟩ := well_tuple x
    obtain ⟨h2, hs⟩ := argT KX ar hu ho
    exact .tup hs (dw_all KX ar ds _ hall p h2)
  | .float _, _, _, p, _ => Bool.noConfusion (show false = true from p)
  | .dict _, _, _, p, _ => Bool.noConfusion (show false = true from p)
  | .bytearray _, _, _, p, _ => Bool.noConfusion (show false = true from p)
  | .set _, _, _, p, _ => Bool.noConfusion (show false = true from p)
  | .frozenset _, _, _, p, _ => Bool.noConfusion (show false = true from p)
  | .obj _ _, _, _, p, _ => Bool.noConfusion (show false = true from p)
theorem dw_all {Pm : Params} (KX : K.In h) (ar : ∀ a ∈ A, ArgOb h A a) : ∀ (ds : List WData) (vs : List Value), WellAll Pm h vs ds → plWs ds = true → (∀ u ∈ vs, OkU A u) → DwAll K (argH K h A) (vs.map toV) ds
  | [], _, x, _, _ => by
    cases x
    exact .nil
  | d :: ds, _, x, p, hu => by
    obtain ⟨v, vs, rfl, x1, x2⟩ := well_cons x
    have q : plW d = true ∧ plWs ds = true := Bool.and_eq_true_iff.mp p
    exact .cons (dw_one KX ar d v x1 q.1 (hu _ (List.mem_cons_self ..))) (dw_all KX ar ds vs x2 q.2 fun u m => hu u (List.mem_cons_of_mem _ m))
end
end
theorem layable_weight {ds : List WData} (h : WData.layableAll ds = true) : ∀ d ∈ ds, d.weight ≤ 1048576 := fun d hd =>
  (PySem.W.layableW_iff.mp (List.all_eq_true.mp h d hd)).2.2
theorem encAll_len : ∀ (cs : List Codec) (a : Codec.denoteAll cs), (Codec.encAll cs a).length = cs.length
  | [], _ => rfl
  | c :: cs, a => by
    show (Codec.encAll cs a.2).length + 1 = cs.length + 1
    rw [encAll_len cs a.2]
end L2
-- rests on (row put in by the clerk, for the bench that shows a file only what it spells): KE.SpHead KE.OsShapes
end
end
section
set_option Elab.async false
set_option linter.all false
set_option maxRecDepth 100000
set_option maxHeartbeats 4000000
namespace L2
open PySem PySem.Spec PyProof.Rows
def Itzt (K : PySem.W.Frag) (a b : Addr) : It :=
  ⟨fun i H => ∃ (xs ys : List V) (x y : V), SqT K H a xs ∧ SqL K H b ys ∧ xs[i]? = some x ∧ ys[i]? = some y,
    fun i H v H' => ∃ T x y, v = .ref T ∧ H T = none ∧ H' = upd H T (.tup [x, y]) ∧ (∀ xs, SqT K H a xs → xs[i]? = some x) ∧ ∀ ys, SqL K H b ys → ys[i]? = some y,
    fun i H => ∃ xs : List V, SqT K H a xs ∧ xs.length ≤ i⟩
theorem turn_zipT {P : Program} {w : World} {K : PySem.W.Frag} {elts : List Expr} {kk : Nat} {tpos : Pos} {a b z TI TO i1 i2 : Addr} (D : ZipApart z TI TO i1 i2 a b) :
    Turn P w K (.Tuple elts kk tpos) (Itzt K a b) [z, TI, TO, i1, i2] z (fun i h => IsZip h z TI TO .none ∧ IsPair h TI (.ref i1) (.ref i2) ∧ (∃ x y, IsPair h TO x y) ∧ h.IsTupleIter i1 a i ∧ h.IsListIter i2 b i) where
  mem := by simp
  obj := fun i h st c hc => by
    obtain ⟨hz, hTI, ⟨x, y, hTO⟩, ⟨o1, e1, _, d1⟩, ⟨o2, e2, _, d2⟩⟩ := st
    have e' : c = z ∨ c = TI ∨ c = TO ∨ c = i1 ∨ c = i2 := by simpa using hc
    rcases e' with q | q | q | q | q
    · rw [q]; exact ⟨_, hz, fun v q => nomatch q⟩
    · rw [q]; exact ⟨_, hTI, fun v q => nomatch q⟩
    · rw [q]; exact ⟨_, hTO, fun v q => nomatch q⟩
    · rw [q]; exact ⟨o1, e1, fun v q => by rw [d1] at q; cases q⟩
    · rw [q]; exact ⟨o2, e2, fun v q => by rw [d2] at q; cases q⟩
  keep := fun i h h' st k => by
    obtain ⟨hz, hTI, ⟨x, y, hTO⟩, h1, h2⟩ := st
    exact ⟨k z (by simp) _ hz, k TI (by simp) _ hTI, ⟨x, y, k TO (by simp) _ hTO⟩, h1.at fun o q => k i1 (by simp) o q, h2.at fun o q => k i2 (by simp) o q⟩
  item := by
    intro X hP hw hK hc i pins s σ H E I hf st hg
    subst hP hw hK
    obtain ⟨hz, hTI, ⟨x0, y0, hTO⟩, h1, h2⟩ := st
    obtain ⟨xs, ys, x, y, hqx, hqy, hx, hy⟩ := hg
    obtain ⟨its, rv, p, _⟩ := I.tuple hqx
    obtain ⟨its2, rv2, p2, _⟩ := I.list hqy
    obtain ⟨u, hu, ru⟩ := rv.get hx
    obtain ⟨u2, hu2, ru2⟩ := rv2.get hy
    have hzl : z < s.heap.objs.size := Heap.lt_size hz
    refine zipT_item D hz hTI hTO h1 h2 (show s.heap.IsTuple a its.toArray from p) p2.isList (u := u) (v := u2) (by simpa using hu) (by simpa using hu2) fun h' z' TO' h1' h2' hT hsz hk => ?_
    refine ⟨_, rfl, wpAny_letOwnedTupleGo_zip (s := { s with heap := h' }) z' fun h'' z'' sb => ?_⟩
    have hT2 : h''.get? s.heap.objs.size = some { cls := .type "tuple", data := .seq #[u, u2] } := (sb.2 _ (Nat.ne_of_gt hzl)).trans hT
    have new : ObjOk X.prog X.w (upd H s.heap.objs.size (.tup [x, y])) h'' s.heap.objs.size (.tup [x, y]) :=
      ⟨by show 2 ≤ sizeLine; decide, [u, u2], .cons ru (.cons ru2 .nil), ⟨_, hT2, rfl, _, rfl⟩⟩
    have I1 : Inv X pins σ (upd H s.heap.objs.size (.tup [x, y])) { s with heap := h'' } :=
      I.turnedNew (t' := s.toks) (ch := [z, TI, TO, i1, i2]) (fun c o hb q => (sb.2 c (fun q' => hb (by simp [q']))).trans (hk c o (fun q' => hb (by simp [q'])) (fun q' => hb (by simp [q'])) (fun q' => hb (by simp [q'])) (fun q' => hb (by simp [q'])) q)) hf (Nat.le_refl _) new
    refine ⟨.ref s.heap.objs.size, _, I1, rfl, ⟨_, x, y, rfl, I.hok.fresh (Nat.le_refl _), rfl, fun l hl => by rw [I.tuple_inj hl hqx]; exact hx, fun l hl => by rw [I.list_inj hl hqy]; exact hy⟩, ⟨z'', ?_, ⟨u, u2, ?_⟩, ?_, ?_⟩, fun c hcm => ?_⟩
    · exact (sb.2 _ D.TIz).trans (hk _ _ D.TIz D.TITO D.TIi1 D.TIi2 hTI)
    · exact (sb.2 _ D.TOz).trans TO'
    · exact h1'.at fun o q => (sb.2 _ D.i1z).trans q
    · exact h2'.at fun o q => (sb.2 _ D.i2z).trans q
    · have hlt : c < s.heap.objs.size := by
        have e' : c = z ∨ c = TI ∨ c = TO ∨ c = i1 ∨ c = i2 := by simpa using hcm
        rcases e' with q | q | q | q | q
        · rw [q]; exact hzl
        · rw [q]; exact Heap.lt_size hTI
        · rw [q]; exact Heap.lt_size hTO
        · rw [q]; obtain ⟨_, e1, _⟩ := h1; exact Heap.lt_size e1
        · rw [q]; obtain ⟨_, e2, _⟩ := h2; exact Heap.lt_size e2
      rw [upd_ne (Nat.ne_of_lt hlt)]
      exact (hf c hcm).1
  done := by
    intro X hP hw hK hc i pins s σ H E I hf st hg
    subst hP hw hK
    obtain ⟨hz, hTI, ⟨x0, y0, hTO⟩, h1, h2⟩ := st
    obtain ⟨xs, hqx, hend⟩ := hg
    obtain ⟨its, rv, p, _⟩ := I.tuple hqx
    have l1 := rv.length
    exact zipT_end (I.ok.hd hc) D hz hTI hTO h1 (show s.heap.IsTuple a its.toArray from p) (by simp; omega) fun h' hk => ⟨rfl, I.turnedL (t' := s.toks) (ch := [z, TI, TO, i1, i2]) (fun c o hb q =>
      hk c o (fun q' => hb (by simp [q'])) (fun q' => hb (by simp [q'])) (fun q' => hb (by simp [q'])) (fun q' => hb (by simp [q'])) q) hf⟩
  self := fun A i s Q E st h => wpAny_pyIter_zip st.1 h
def iZipT (K : PySem.W.Frag) (ta : TA) : TI := fun σ H R => ta σ H fun vs H1 => ∃ a b xs ys, vs = [.ref a, .ref b] ∧ SqT K H1 a xs ∧ SqL K H1 b ys ∧ R (Itzt K a b) H1
theorem pi_zipT {X : Cx} {e e2 : Expr} {ta : TA} {p pos tpos : Pos} {elts : List Expr} {kk : Nat} (hg : Gl X "zip") (hm : X.mg "zip" = none) (ha : PA X [e, e2] ta)
    (hs : starEach [e, e2] X.env = (false, eval e X.env) :: starEach [e2] X.env := by rfl) (hpl : (backTo pos (starEach [e2] X.env)).any (·.1) = false := by rfl) :
    PI X (.Tuple elts kk tpos) (.Call (.Name "zip" p) [e, e2] [] pos) (iZipT X.K ta) := by
  intro pins s σ H R I h
  refine Call_ (ld_blt I hg hm boot_zip5 (PyProof.Rows.callWith_type1 (thn (ha pos pins s σ H _ I h) fun us s1 ⟨vs, H1, I1, r1, q1⟩ => ?_) hs hpl))
  obtain ⟨a, b, xs, ys, ex, hqx, hqy, q⟩ := q1
  subst ex
  cases r1 with
  | cons r rr =>
    cases rr with
    | cons r' rr =>
      cases rr
      cases r
      cases r'
      obtain ⟨its, rv, p1, _⟩ := I1.tuple hqx
      obtain ⟨its2, rv2, p2, _⟩ := I1.list hqy
      have la : a < s1.heap.objs.size := p1.lt
      have lb : b < s1.heap.objs.size := p2.lt
      refine call_zipT (show s1.heap.IsTuple a its.toArray from p1) p2.isList fun h' hz hTI hTO h1 h2 hk => wpAny_pyIter_zip hz ?_
      have I2 : Inv X pins σ H1 { s1 with heap := h' } := I1.kept (t' := s1.toks) hk
      refine ⟨s1.heap.objs.size + 4, [s1.heap.objs.size + 4, s1.heap.objs.size + 2, s1.heap.objs.size + 3, s1.heap.objs.size, s1.heap.objs.size + 1], _, _, H1, rfl, I2, turn_zipT (PySem.W.ktu_apart s1.heap.objs.size a b la lb), ⟨hz, hTI, ⟨_, _, hTO⟩, h1, h2⟩, fun c hcm => ?_, q⟩
      have e' : c = s1.heap.objs.size + 4 ∨ c = s1.heap.objs.size + 2 ∨ c = s1.heap.objs.size + 3 ∨ c = s1.heap.objs.size ∨ c = s1.heap.objs.size + 1 := by simpa using hcm
      have hle : s1.heap.objs.size ≤ c := by
        rcases e' with z | z | z | z | z
        · rw [z]; exact Nat.le_add_right _ _
        · rw [z]; exact Nat.le_add_right _ _
        · rw [z]; exact Nat.le_add_right _ _
        · rw [z]; exact Nat.le_refl _
        · rw [z]; exact Nat.le_add_right _ _
      exact I1.fpOk hle (I1.hok.fresh hle)
open PySem.W (WData Codec OpenSpec Well WellAll ReadsW ReadsAllW)
structure NeedB (mg : Str → Option Value) (base : Heap) (cc tb : Addr) : Prop where
  code : PySem.W.CodeHd base cc tb
  blt : base.BuiltinsAt mg tb
mutual
theorem dw_mono {K : PySem.W.Frag} {H H' : Hp} (k : ∀ b u, H b = some u → H' b = some u) : ∀ (d : WData) (v : V), Dw K H v d → Dw K H' v d
  | _, _, .non => .non
  | _, _, .bl b => .bl b
  | _, _, .int i => .int i
  | _, _, .str x => .str x
  | _, _, .byt b => .byt b
  | _, _, .lst hs ha => .lst (by
      rcases hs with (h | ⟨o, h⟩) | h
      · exact .inl (.inl (k _ _ h))
      · exact .inl (.inr ⟨o, k _ _ h⟩)
      · exact .inr h) (dwAll_mono k _ _ ha)
  | _, _, .tup hs ha => .tup (by
      rcases hs with (h | ⟨o, h⟩) | h
      · exact .inl (.inl (k _ _ h))
      · exact .inl (.inr ⟨o, k _ _ h⟩)
      · exact .inr h) (dwAll_mono k _ _ ha)
theorem dwAll_mono {K : PySem.W.Frag} {H H' : Hp} (k : ∀ b u, H b = some u → H' b = some u) : ∀ (ds : List WData) (vs : List V), DwAll K H vs ds → DwAll K H' vs ds
  | _, _, .nil => .nil
  | _, _, .cons h t => .cons (dw_mono k _ _ h) (dwAll_mono k _ _ t)
end
theorem spec_callT {P : Program} {w : World} {K : PySem.W.Frag} {mg mb : Str → Option Value} {CX : CXT} {k : Nat} {fa : Addr} {fd : FuncData} {ps : List Str} {sp : Sp} {s₁ : Shared} {vals : List Value} {ds : List WData} {R : PySem.W.WRecords} {cl : Str → Option Addr} {d0 : WData} {tb cc : Addr} {tp : Pos × Str}
    (KX : K.In s₁.heap) (hns : s₁.heap.Ns mainGlobals mg) (hb : s₁.heap.Ns builtinsNs mb) (hbb : ∀ x : Str, x ≠ "__name__" → mb x = bootBuiltins x) (hlim : s₁.heap.NoLimit) (hg : s₁.gens = #[])
    (hwl : WellAll w.params s₁.heap vals ds) (hpl : plWs ds = true) (htb : s₁.heap.get? tb = some (PySem.W.tabObj #[])) (hcc : PySem.W.CodeHd s₁.heap cc tb) (htk : K.lookup tb = none) (hbm : ∃ bm ob, mg "__builtins__" = some (.ref bm) ∧ bm ≠ builtinsNs ∧ s₁.heap.get? bm = some ob ∧ ob.cls = .type "module" ∧ ob.dict = some builtinsNs ∧ ob.data = .plain) (hwt : ∀ d ∈ ds, d.weight ≤ 1048576) (hr : Room k callerA)
    (F : ∀ base : Heap, K.In base → base.Ns mainGlobals mg → NeedB mg base cc tb → FnOk P w K mg base CX k fa fd ps sp) (hbind : ∀ (s : Shared) (us : List Value), us.length = ps.length → BindsTo s fd ⟨us, []⟩ (ps.zip us)) (hlen : ds.length = ps.length)
    (hsp : ∀ (H : Hp) (xs : List V), H tb = some (.tbl tp) → DwAll K H xs ds → sp xs H (fun v H' => Dw K H' v d0) fun _ _ _ => False)
    (hCX : ∀ H e s', CX [] H s₁ (fun _ _ _ => False) e s' → False) :
    codeAny (model P w) callerA (.call (.ref fa) ⟨vals, []⟩) (fun r s' => ∃ u as, r = .ok (.ret u) ∧ ReadsW R cl s'.heap u d0 as ∧ OldK s₁.heap s'.heap ∧ s'.os = s₁.os ∧ AllBare s'.gens) s₁ := by
  obtain ⟨A, ho, ar⟩ := area_all ds vals hwl hpl hwt
  have hO : OnlyF (argH K s₁.heap A) := argH_only ar
  have nA : tb ∉ A := fun z => by
    obtain ⟨vs, _, _, e | e⟩ := ar tb z
    · rw [htb] at e; cases e
    · rw [htb] at e; cases e
  have nH : argH K s₁.heap A tb = none := by unfold argH; rw [if_neg nA]
  have hok : HOk P w (argH K s₁.heap A) s₁.heap := argH_ok ar
  have hS := dw_all KX ar ds vals hwl hpl ho
  have hV := vals_toV ho
  have hK : ∀ b u, argH K s₁.heap A b = some u → K.lookup b = none := fun b u q => (argH_is ar q).1
  have noA : ∀ {b : Addr} {o : Obj} {es : Array DictEntry} {ep : Nat}, s₁.heap.get? b = some o → o.data = .dict es ep → argH K s₁.heap A b = none := fun {b o es ep} e d => by
    cases q : argH K s₁.heap A b with
    | none => rfl
    | some u =>
      obtain ⟨_, vs, _, _, ⟨e2, _⟩ | ⟨e2, _⟩⟩ := argH_is ar q
      · rw [e2] at e
        cases e
        have d' : Data.seq vs.toArray _ = Data.dict es ep := d
        cases d'
      · rw [e2] at e
        cases e
        have d' : Data.seq vs.toArray _ = Data.dict es ep := d
        cases d'
  have onlyB : ∀ b o u, argH K s₁.heap A b = some (.frz o u) → s₁.heap.get? b = some o ∧ (o.cls = .type "list" ∨ o.cls = .type "tuple") := fun b o u e => by
    obtain ⟨_, vs, _, _, ⟨q, z⟩ | ⟨q, z⟩⟩ := argH_is ar e
    · cases z; exact ⟨q, .inl rfl⟩
    · cases z; exact ⟨q, .inr rfl⟩
  generalize argH K s₁.heap A = H0 at hO hok hS hK noA nH onlyB
  have onlyA : ∀ b o u, H0 b = some (.frz o u) → s₁.heap.get? b = some o ∧ (o.cls = .type "list" ∨ o.cls = .type "tuple") := fun b o u e => onlyB b o u e
  have hHt : upd H0 tb (.tbl tp) tb = some (.tbl tp) := upd_same
  have neT : ∀ b u, H0 b = some u → b ≠ tb := fun b u e z => by rw [z, nH] at e; cases e
  have hok : HOk P w (upd H0 tb (.tbl tp)) s₁.heap := fun b u e => by
    by_cases hb : b = tb
    · rw [hb, upd_same] at e
      cases e
      rw [hb]
      exact ⟨#[], htb, True.intro, .inl rfl⟩
    · rw [upd_ne hb] at e
      exact (hok b u e).stay (fun _ _ _ q => q) (fun c q => by rw [upd_ne (neT c _ q)]; exact q) fun c xs q => by rw [upd_ne (neT c _ q)]; exact q
  have hS := dwAll_mono (H' := upd H0 tb (.tbl tp)) (fun b u e => by rw [upd_ne (neT b u e)]; exact e) _ _ hS
  have hK : ∀ b u, upd H0 tb (.tbl tp) b = some u → K.lookup b = none := fun b u q => by
    by_cases hb : b = tb
    · rw [hb]; exact htk
    · rw [upd_ne hb] at q; exact hK b u q
  have noA : ∀ {b : Addr} {o : Obj} {es : Array DictEntry} {ep : Nat}, s₁.heap.get? b = some o → o.data = .dict es ep → upd H0 tb (.tbl tp) b = none := fun {b o es ep} e d => by
    have hb : b ≠ tb := fun z => by rw [z, htb] at e; cases e; cases d
    rw [upd_ne hb]
    exact noA e d
  have hO : ∀ b, b ≠ tb → upd H0 tb (.tbl tp) b = none ∨ ∃ o u, upd H0 tb (.tbl tp) b = some (.frz o u) := fun b hb => by rw [upd_ne hb]; exact hO b
  have onlyA : ∀ b o u, b ≠ tb → upd H0 tb (.tbl tp) b = some (.frz o u) → s₁.heap.get? b = some o ∧ (o.cls = .type "list" ∨ o.cls = .type "tuple") := fun b o u hb e => by rw [upd_ne hb] at e; exact onlyA b o u e
  generalize upd H0 tb (.tbl tp) = H at hO hok hS hK noA hHt onlyA
  have base_of : ∀ {b : Addr} {o : Obj}, s₁.heap.get? b = some o → H b = none → (hidT s₁.heap H).get? b = some o := fun e n => hidT_get e n
  have nsK : ∀ {b : Addr} {m : Str → Option Value}, s₁.heap.Ns b m → (hidT s₁.heap H).Ns b m := fun {b m} ⟨o, es, ep, e, d, r⟩ => ⟨o, es, ep, base_of e (noA e d), d, r⟩
  have nK : ∀ b o, K.lookup b = some o → H b = none := fun b o e => by
    cases q : H b with
    | none => rfl
    | some u =>
      rw [hK b u q] at e
      cases e
  have hKb : K.In (hidT s₁.heap H) := fun b o e => base_of (KX b o e) (nK b o e)
  have hM : Mod K mg (hidT s₁.heap H) := ⟨hKb, nsK hns, ⟨mb, nsK hb, hbb⟩, let ⟨mc, h1, h2⟩ := hlim; ⟨mc, nsK h1, h2⟩⟩
  have e0 : Env0 P w K mg (hidT s₁.heap H) callerA [] s₁ H := ⟨rfl, hM, fun b o e => of_hidT e, Nat.le_of_eq (hidT_size _ _), trivial, fun b hb => absurd (show b ∈ ([] : List Addr) from hb) (by simp), hok, .of_eq hg⟩
  have hl : vals.length = ps.length := by rw [wellAll_len hwl]; exact hlen
  have hN : NeedB mg (hidT s₁.heap H) cc tb := by
    obtain ⟨o, vs, file, tf, flags, tg, inF, text, tt, e1, e2, e3, r⟩ := hcc
    obtain ⟨bm, ob, b1, b2, b3, b4, b5, b6⟩ := hbm
    have nof : ∀ {b : Addr} {o : Obj}, s₁.heap.get? b = some o → o.cls ≠ .type "list" → o.cls ≠ .type "tuple" → b ≠ tb → H b = none := fun {b o} e h1 h2 hb => by
      rcases hO b hb with z | ⟨ob', u, z⟩
      · exact z
      · exact absurd (onlyA b ob' u hb z) (fun q => by
          obtain ⟨q1, q2⟩ := q
          rw [e] at q1
          cases q1
          rcases q2 with q2 | q2
          · exact h1 q2
          · exact h2 q2)
    have nb : bm ≠ tb := fun z => by rw [z, htb] at b3; cases b3; cases b4
    have ncc : cc ≠ tb := r.2.2.2.2.2.2
    refine ⟨⟨o, vs, file, tf, flags, tg, inF, text, tt, base_of e1 (nof e1 (by rw [e2]; intro q; exact absurd (Value.type.inj q) (by decide)) (by rw [e2]; intro q; exact absurd (Value.type.inj q) (by decide)) ncc), e2, e3, r⟩, ⟨bm, ob, b1, b2, fun z => ?_, nb, base_of b3 (nof b3 (by rw [b4]; intro q; exact absurd (Value.type.inj q) (by decide)) (by rw [b4]; intro q; exact absurd (Value.type.inj q) (by decide)) nb), b4, b5, b6⟩⟩
    obtain ⟨og, es, ep, e, hd, _⟩ := hns
    rw [z, e] at b3
    cases b3
    rw [hd] at b6
    cases b6
  refine codeAny_mono ((F _ hKb (nsK hns) hN).run callerA [] s₁ H ⟨vals, []⟩ vals (vals.map toV) _ _ hr e0 (hbind s₁ vals hl) hV (hsp H _ hHt hS)) fun r s' x => ?_
  cases r with
  | error e => exact (hCX H e s' x).elim
  | ok fl =>
    cases fl with
    | next => exact False.elim x
    | brk => exact False.elim x
    | cont => exact False.elim x
    | ret u =>
      obtain ⟨v, H', os, bare, un, hok', r', q⟩ := x
      have kept : ∀ b o, b ≠ tb → s₁.heap.get? b = some o → s'.heap.get? b = some o := fun b o hb e => by
        cases q2 : H b with
        | none => exact un.keep b o e q2 (by intro z; exact absurd (show b ∈ ([] : List Addr) from z) (by simp)) (by simp)
        | some u2 =>
          rcases hO b hb with z | ⟨ob, u3, z⟩
          · rw [q2] at z
            cases z
          · have z2 := un.frzs b ob _ z
            obtain ⟨e1, _⟩ := hok b _ z
            obtain ⟨e2, _⟩ := hok' b _ z2
            rw [e] at e1
            cases e1
            exact e2
      obtain ⟨ps', hps, _, _⟩ := (show TabOk H' s'.heap tb tp from hok' tb _ (un.tbls tb tp hHt))
      have old : OldK s₁.heap s'.heap := ⟨fun b o e => by
        by_cases hb : b = tb
        · rw [hb, htb] at e
          cases e
          rw [hb]
          exact .inr (.inl ⟨(hcc.tab htb).isCodeTable, rfl, #[], ps', rfl, by rw [Array.empty_append]; exact hps⟩)
        · exact .inl (kept b o hb e), fun b o e => by
        by_cases hb : b = tb
        · rw [hb]; exact ⟨_, hps⟩
        · exact ⟨o, kept b o hb e⟩⟩
      have KX' : K.In s'.heap := fun b o e => kept b o (fun z => by rw [z, htk] at e; cases e) (KX b o e)
      obtain ⟨as, hrd⟩ := Dw.reads (R := R) (cl := cl) hok' KX' d0 v u q r'
      exact ⟨u, as, rfl, hrd, old, os, bare⟩
theorem walk_specT {r : OpenSpec} {k : Nat} {q : Program} {loose : List Str} {XP : (Str → Option Value) → Heap → Prop} {YP : World → Heap → Prop} {d : DefRec} {K : Params → PySem.W.Frag} {CX : World → CXT} {ps : List Str} {sp : World → Sp} {cc tb : Addr} {tp : Pos × Str} {tx : Str} {tr : DefRec}
    (hwell : r.wellSaid = true) (hdf : d.params.defaults = []) (hlen : r.args.length = ps.length) (hr : Room k callerA) (htr : (recsOf q).find? (fun e => e.name == tx) = some tr) (hti : ∀ w : World, PySem.W.tabIn (K w.params) tx = some (cc, tb)) (htk : ∀ w : World, (K w.params).lookup tb = none)
    (hY : ∀ (w : World) (h : Heap), YP w h → (K w.params).In h)
    (F : ∀ (w : World) (mg : Str → Option Value) (fa : Addr) (h : Heap), YP w h → (K w.params).In h → h.Ns mainGlobals mg → mg d.name = some (.ref fa) →
      ∃ fd : FuncData, (∀ (s : Shared) (us : List Value), us.length = ps.length → BindsTo s fd ⟨us, []⟩ (ps.zip us)) ∧
        ∀ base : Heap, (K w.params).In base → base.Ns mainGlobals mg → NeedB mg base cc tb → FnOk r.prog w (K w.params) mg base (CX w) k fa fd ps (sp w))
    (hsp : ∀ (w : World) (H : Hp) (xs : List V) (a : Codec.denoteAll r.args), H tb = some (.tbl tp) → Codec.withinAll r.args a = true → Codec.app r.args r.asked a = true → DwAll (K w.params) H xs (Codec.encAll r.args a) →
      sp w xs H (fun v H' => Dw (K w.params) H' v (r.ret.enc (Codec.app r.args r.f a))) fun _ _ _ => False)
    (hCX : ∀ (w : World) (H : Hp) (s : Shared) (e : Value) (s' : Shared), CX w [] H s (fun _ _ _ => False) e s' → False) :
    PySem.W.WalkOS q loose XP YP r d [] (fun f vs => PySem.call f vs) := by
  intro w s_0 s₁ mg mb G Y fa o pm cd doc dV kV ho hd hcd hD hmg hg args vals as hpre hlay hrd hwl hlo
  obtain ⟨a, e1, e2⟩ := PySem.W.os_pre_some hpre
  obtain ⟨e3, hwi⟩ := Codec.encAll_of_decAll r.args args a e1
  subst e3
  have KX := hY w _ Y
  obtain ⟨hcc, htb⟩ := PySem.W.tab_of G.T KX htr (hti w)
  obtain ⟨fd, hb, hF⟩ := F w mg fa _ Y KX G.T.g hmg
  refine PySem.W.enter_call (codeAny_mono (spec_callT (R := []) (tb := tb) (cc := cc) (tp := tp) (cl := classAt s_0.heap) (d0 := r.ret.enc (Codec.app r.args r.f a)) KX G.T.g G.T.b G.T.builtins G.T.nolimit hg hwl (pl_encAll _ _) htb hcc (htk w) G.T.bmain (layable_weight hlay) hr hF hb (by rw [encAll_len]; exact hlen)
    (fun H xs hO hS => hsp w H xs a hO hwi e2 hS) fun H e s' => hCX w H s₁ e s') fun r' s' hq => ?_)
  obtain ⟨u, as', rfl, h1, h2, h3, h4⟩ := hq
  exact ⟨.inl ⟨u, _, as', rfl, fun _ => rfl, h1, (OpenSpec.post_iff hwell hwi _ _).mpr rfl, fun z => Bool.noConfusion (show false = true from z)⟩, h2, h3, h4⟩
end L2
end
section
set_option Elab.async false
set_option linter.all false
set_option maxRecDepth 100000
set_option maxHeartbeats 4000000
namespace L2
open PySem PySem.Spec PyProof.Rows
section
variable {X : Cx}
def tSortedR (K : PySem.W.Frag) (t : TA) : TE := fun σ H Q => t σ H fun vs H1 => ∃ (a : Addr) (ns : List Int), vs = [V.ref a] ∧ SqL K H1 a (ns.map V.int) ∧ ns.length < 64 ∧
  ∀ (ns' : List Int) (p : Addr), ns'.Perm ns → ns'.Pairwise (fun x y => y ≤ x) → H1 p = none → Q (.ref p) (upd H1 p (.lst (ns'.map V.int)))
theorem pe_sortedR {e : Expr} {t : TA} {p pos kp cp : Pos} {j : Nat} (hg : Gl X "sorted") (hm : X.mg "sorted" = none) (ha : PA X [e] t) (he : starEach [e] X.env = [(false, eval e X.env)] := by rfl) :
    PE X (.Call (.Name "sorted" p) [e] [⟨some "reverse", .Constant (.bool true) j cp, kp⟩] pos) (tSortedR X.K t) := by
  intro pins s σ H Q I h
  refine wpAny_Call_Name_kw (ld_blt I hg hm boot_sorted ?_)
  refine PyProof.Rows.callWith_kw (thn (ha pos pins s σ H _ I h) fun us s1 ⟨vs, H1, I1, r1, a, ns, ev, hs, h64, q⟩ => ?_) (by rw [he]; rfl) (by rw [he]; rfl)
  refine kws_cons (Constant_bool (kws_nil ?_))
  subst ev
  rw [Vals.ref1 r1]
  obtain ⟨its, rv, hl, _⟩ := I1.list hs
  have hi := rv.ints
  show wpAny _ _ (call (.builtin "sorted") [.ref a] [(Str.ofString "reverse", .bool true)]) _ _ _
  refine sorted_ints_rev hl.isList hi (by rw [hi.length]; exact h64) fun out ns' h1 h2 h3 => ?_
  obtain ⟨ep, he'⟩ := PyProof.Rows.sortedAll_at s1.heap its out
  have hlen : (ns'.map V.int).length ≤ sizeLine := by rw [List.length_map, h2.length_eq]; exact small64 h64
  exact ⟨.ref _, upd H1 (s1.heap.objs.size + 1) (.lst (ns'.map V.int)), I1.laid (t' := s1.toks) (fun _ _ => PyProof.Rows.sortedAll_old) (Nat.le_succ _) ⟨hlen, out.toList, ep, vals_of_ints h1, he'⟩, rfl, q ns' _ h2 (h3.imp fun z => z) (I1.hok.fresh (Nat.le_succ _))⟩
def tPick (t : TT) (n m : Int) : TE := fun σ H Q => t σ H fun b H1 => Q (.int (if b = true then n else m)) H1
theorem pe_pick {c : Expr} {tA : TT} {n m : Int} {j j' : Nat} {p p' pos : Pos} (hc : PT X c tA) : PE X (.IfExp c (.Constant (.int n) j p) (.Constant (.int m) j' p') pos) (tPick tA n m) := by
  intro pins s σ H Q I h
  refine wpAny_IfExp (thn (hc pins s σ H _ I h) fun d s1 ⟨H1, I1, q1⟩ => ?_)
  cases d with
  | true => exact pe_int pins s1 σ H1 Q I1 q1
  | false => exact pe_int pins s1 σ H1 Q I1 q1
theorem gl_int {x : Str} {n : Int} {pos : Pos} (h : ∃ t, X.mg x = some (.int n t)) (hg : Gl X x := by rfl) (hd : (x == ("__debug__" : Str)) = false := by decide) : PE X (.Name x pos) (tC (.int n)) :=
  let ⟨t, e⟩ := h
  pe_glob hg e ⟨t, rfl⟩ hd
theorem gl_ref {x : Str} {a : Addr} {pos : Pos} (h : X.mg x = some (.ref a)) (hg : Gl X x := by rfl) (hd : (x == ("__debug__" : Str)) = false := by decide) : PE X (.Name x pos) (tC (.ref a)) := pe_glob hg h rfl hd
structure KD (K : PySem.W.Frag) (a : Addr) (f : Int → Option Int) : Prop where
  ex : ∃ (es : Array DictEntry) (n : Nat), K.lookup a = some ⟨.type "dict", none, .dict es n, #[]⟩ ∧ (∀ e ∈ es.toList, ∃ k t, e.key = .int k t ∧ e.hash = hashInt k) ∧ ∀ k v, f k = some v → ∃ t, findBy Value.isInt es k = some (.int v t)
def rIxKD (K : PySem.W.Frag) : R2 := fun x y H Q => ∃ a f k v, x = .ref a ∧ y = .int k ∧ KD K a f ∧ f k = some v ∧ Q (.int v) H
theorem ix_kd : IxR X (rIxKD X.K) := by
  intro value slice pins s σ H x y v u Q I rx ry h hs
  obtain ⟨a, f, k, z, rfl, rfl, ⟨es, n, hl, hk, hf⟩, he, q⟩ := h
  obtain rfl : v = Value.ref a := rx
  obtain ⟨t, rfl⟩ := ry
  obtain ⟨t', ht⟩ := hf k z he
  have hm : s.heap.MapOf (intKind X.prog X.w) a (fun k => findBy Value.isInt es k) := ⟨_, es, n, I.kIn _ _ hl, ⟨rfl, rfl, rfl⟩, rfl, fun e he => by
    obtain ⟨k', t2, e1, e2⟩ := hk e (Array.mem_toList_iff.mpr he)
    exact ⟨k', by rw [e1]; exact intKind_is X.prog X.w k' t2, e2⟩, fun _ => rfl⟩
  exact tail_any hm.typeIs slot_dict_getitem.lookup (wpAny_getItem_of (intKind_is X.prog X.w k t) hm ht ⟨.int z, H, I.tok _, ⟨_, rfl⟩, q⟩) hs
end
theorem on_hp {R : Hp → Prop} {H H' : Hp} (e : H = H') (h : R H') : R H := e ▸ h
theorem for_zip {K : PySem.W.Frag} {a b : Addr} {xs ys : List V} {g : TG} {tb : TS} {D : Ends} {σ : St} {H : Hp} (Pv : Nat → St → Hp → Prop) (hlen : xs.length = ys.length) (h0 : Pv 0 σ H)
    (hl : ∀ i σ H, i ≤ xs.length → Pv i σ H → SqL K H a xs ∧ SqL K H b ys)
    (hs : ∀ i x y σ H T, xs[i]? = some x → ys[i]? = some y → Pv i σ H → H T = none → g (.ref T) σ (upd H T (.tup [x, y])) fun σ2 H2 => tb { D with nx := Pv (i + 1), ct := Pv (i + 1), bk := D.nx } σ2 H2) (hd : ∀ σ H, Pv xs.length σ H → D.nx σ H) :
    ∃ W : Nat → Nat → St → Hp → Prop, (∃ m, W 0 m σ H) ∧ ∀ i m σ H, W i m σ H →
      ((Itz K a b).stop i H ∧ D.nx σ H) ∨ ((Itz K a b).go i H ∧ ∃ N : St → Hp → Prop, (∀ σ' H', N σ' H' → ∃ m', m' < m ∧ W (i + 1) m' σ' H') ∧ ∀ x H', (Itz K a b).yld i H x H' → g x σ H' fun σ2 H2 => tb { D with nx := N, ct := N, bk := D.nx } σ2 H2) := by
  refine ⟨fun i m σ H => m = xs.length - i ∧ i ≤ xs.length ∧ Pv i σ H, ⟨xs.length, by simp, Nat.zero_le _, h0⟩, ?_⟩
  rintro i m σ H ⟨rfl, hi, p⟩
  obtain ⟨qa, qb⟩ := hl i σ H hi p
  by_cases hlt : i < xs.length
  · refine .inr ⟨⟨xs, ys, xs[i], ys[i], qa, qb, by simp [hlt], by simp [hlen ▸ hlt]⟩, Pv (i + 1), fun σ' H' p' => ⟨xs.length - (i + 1), by omega, rfl, hlt, p'⟩, fun v H' y => ?_⟩
    obtain ⟨T, x, y, e, hT, eH, y1, y2⟩ := y
    subst e eH
    exact hs i x y σ H T (y1 xs qa) (y2 ys qb) p hT
  · have e : i = xs.length := by omega
    subst e
    exact .inl ⟨⟨xs, ys, qa, qb, .inl (Nat.le_refl _)⟩, hd σ H p⟩
theorem lc_zip {K : PySem.W.Frag} {a b : Addr} {xs ys : List V} {g : TG} {tt : TT} {te : TE} {vs : List Nat} {σ : St} {H1 : Hp} {D : Addr} {Qd : Hp → Prop} (Pv : Nat → Hp → Prop) (hlen : xs.length = ys.length) (h0 : Pv 0 (upd H1 D (.lst [])))
    (hl : ∀ i H, i ≤ xs.length → Pv i H → SqL K H a xs ∧ SqL K H b ys)
    (hs : ∀ i x y H T, xs[i]? = some x → ys[i]? = some y → Pv i H → H T = none → g (.ref T) (wipe σ vs) (upd H T (.tup [x, y])) fun σ2 H2 => wipe σ2 vs = wipe σ vs ∧ tt σ2 H2 fun b H3 =>
      if b = true then te σ2 H3 fun y H4 => ∃ acc, H4 D = some (.lst acc) ∧ acc.length < sizeLine ∧ Pv (i + 1) (upd H4 D (.lst (acc ++ [y]))) else Pv (i + 1) H3) (hd : ∀ H, Pv xs.length H → Qd H) :
    ∃ W : Nat → Nat → Hp → Prop, (∃ m, W 0 m (upd H1 D (.lst []))) ∧ ∀ i m H, W i m H →
      ((Itz K a b).stop i H ∧ Qd H) ∨ ((Itz K a b).go i H ∧ ∃ Nx : Hp → Prop, (∀ H', Nx H' → ∃ m', m' < m ∧ W (i + 1) m' H') ∧ ∀ x H', (Itz K a b).yld i H x H' → g x (wipe σ vs) H' fun σ2 H2 => wipe σ2 vs = wipe σ vs ∧ tt σ2 H2 fun b H3 =>
        if b = true then te σ2 H3 fun y H4 => ∃ acc, H4 D = some (.lst acc) ∧ acc.length < sizeLine ∧ Nx (upd H4 D (.lst (acc ++ [y]))) else Nx H3) := by
  refine ⟨fun i m H => m = xs.length - i ∧ i ≤ xs.length ∧ Pv i H, ⟨xs.length, by simp, Nat.zero_le _, h0⟩, ?_⟩
  rintro i m H ⟨rfl, hi, p⟩
  obtain ⟨qa, qb⟩ := hl i H hi p
  by_cases hlt : i < xs.length
  · refine .inr ⟨⟨xs, ys, xs[i], ys[i], qa, qb, by simp [hlt], by simp [hlen ▸ hlt]⟩, Pv (i + 1), fun H' p' => ⟨xs.length - (i + 1), by omega, rfl, hlt, p'⟩, fun v H' y => ?_⟩
    obtain ⟨T, x, y, e, hT, eH, y1, y2⟩ := y
    subst e eH
    exact hs i x y H T (y1 xs qa) (y2 ys qb) p hT
  · have e : i = xs.length := by omega
    subst e
    exact .inl ⟨⟨xs, ys, qa, qb, .inl (Nat.le_refl _)⟩, hd H p⟩
end L2
end
section
set_option Elab.async false
set_option linter.all false
set_option maxRecDepth 100000
set_option maxHeartbeats 4000000
namespace L2
open PySem PySem.Spec PyProof.Rows
theorem for_keysT {d : Addr} {o : Obj} {kvs : List (List Key × V)} {g : TG} {tb : TS} {D : Ends} {σ : St} {H : Hp} (Pv : Nat → St → Hp → Prop) (h0 : Pv 0 σ H)
    (hl : ∀ i σ H, i ≤ kvs.length → Pv i σ H → H d = some (.frz o (.dT kvs)))
    (hs : ∀ i k v q σ H, kvs[i]? = some (k, v) → H q = some (.tup (k.map kV)) → Pv i σ H → g (.ref q) σ H fun σ2 H2 => tb { D with nx := Pv (i + 1), ct := Pv (i + 1), bk := D.nx } σ2 H2) (hd : ∀ σ H, Pv kvs.length σ H → D.nx σ H) :
    ∃ W : Nat → Nat → St → Hp → Prop, (∃ m, W 0 m σ H) ∧ ∀ i m σ H, W i m σ H →
      ((Itkt d o kvs).stop i H ∧ D.nx σ H) ∨ ((Itkt d o kvs).go i H ∧ ∃ N : St → Hp → Prop, (∀ σ' H', N σ' H' → ∃ m', m' < m ∧ W (i + 1) m' σ' H') ∧ ∀ x H', (Itkt d o kvs).yld i H x H' → g x σ H' fun σ2 H2 => tb { D with nx := N, ct := N, bk := D.nx } σ2 H2) := by
  refine ⟨fun i m σ H => m = kvs.length - i ∧ i ≤ kvs.length ∧ Pv i σ H, ⟨kvs.length, by simp, Nat.zero_le _, h0⟩, ?_⟩
  rintro i m σ H ⟨rfl, hi, p⟩
  have q := hl i σ H hi p
  by_cases hlt : i < kvs.length
  · refine .inr ⟨⟨q, hlt⟩, Pv (i + 1), fun σ' H' p' => ⟨kvs.length - (i + 1), by omega, rfl, hlt, p'⟩, fun x H' y => ?_⟩
    obtain ⟨e, k, v, r, h1, h2, h3⟩ := y
    subst e h2
    exact hs i k v r σ _ h1 h3 p
  · have e : i = kvs.length := by omega
    subst e
    exact .inl ⟨⟨q, Nat.le_refl _⟩, hd σ H p⟩
theorem lc_zipT {K : PySem.W.Frag} {a b : Addr} {xs ys : List V} {g : TG} {tt : TT} {te : TE} {vs : List Nat} {σ : St} {H1 : Hp} {D : Addr} {Qd : Hp → Prop} (Pv : Nat → Hp → Prop) (hlen : xs.length = ys.length) (h0 : Pv 0 (upd H1 D (.lst [])))
    (hl : ∀ i H, i ≤ xs.length → Pv i H → SqT K H a xs ∧ SqL K H b ys)
    (hs : ∀ i x y H T, xs[i]? = some x → ys[i]? = some y → Pv i H → H T = none → g (.ref T) (wipe σ vs) (upd H T (.tup [x, y])) fun σ2 H2 => wipe σ2 vs = wipe σ vs ∧ tt σ2 H2 fun b H3 =>
      if b = true then te σ2 H3 fun y H4 => ∃ acc, H4 D = some (.lst acc) ∧ acc.length < sizeLine ∧ Pv (i + 1) (upd H4 D (.lst (acc ++ [y]))) else Pv (i + 1) H3) (hd : ∀ H, Pv xs.length H → Qd H) :
    ∃ W : Nat → Nat → Hp → Prop, (∃ m, W 0 m (upd H1 D (.lst []))) ∧ ∀ i m H, W i m H →
      ((Itzt K a b).stop i H ∧ Qd H) ∨ ((Itzt K a b).go i H ∧ ∃ Nx : Hp → Prop, (∀ H', Nx H' → ∃ m', m' < m ∧ W (i + 1) m' H') ∧ ∀ x H', (Itzt K a b).yld i H x H' → g x (wipe σ vs) H' fun σ2 H2 => wipe σ2 vs = wipe σ vs ∧ tt σ2 H2 fun b H3 =>
        if b = true then te σ2 H3 fun y H4 => ∃ acc, H4 D = some (.lst acc) ∧ acc.length < sizeLine ∧ Nx (upd H4 D (.lst (acc ++ [y]))) else Nx H3) := by
  refine ⟨fun i m H => m = xs.length - i ∧ i ≤ xs.length ∧ Pv i H, ⟨xs.length, by simp, Nat.zero_le _, h0⟩, ?_⟩
  rintro i m H ⟨rfl, hi, p⟩
  obtain ⟨qa, qb⟩ := hl i H hi p
  by_cases hlt : i < xs.length
  · refine .inr ⟨⟨xs, ys, xs[i], ys[i], qa, qb, by simp [hlt], by simp [hlen ▸ hlt]⟩, Pv (i + 1), fun H' p' => ⟨xs.length - (i + 1), by omega, rfl, hlt, p'⟩, fun v H' y => ?_⟩
    obtain ⟨T, x, y, e, hT, eH, y1, y2⟩ := y
    subst e eH
    exact hs i x y H T (y1 xs qa) (y2 ys qb) p hT
  · have e : i = xs.length := by omega
    subst e
    exact .inl ⟨⟨xs, qa, Nat.le_refl _⟩, hd H p⟩
theorem lc_enum {K : PySem.W.Frag} {a : Addr} {xs : List V} {g : TG} {tt : TT} {te : TE} {vs : List Nat} {σ : St} {H1 : Hp} {D : Addr} {Qd : Hp → Prop} (Pv : Nat → Hp → Prop) (h0 : Pv 0 (upd H1 D (.lst [])))
    (hl : ∀ i H, i ≤ xs.length → Pv i H → SqL K H a xs)
    (hs : ∀ i x H T, xs[i]? = some x → Pv i H → H T = none → g (.ref T) (wipe σ vs) (upd H T (.tup [.int (i : Nat), x])) fun σ2 H2 => wipe σ2 vs = wipe σ vs ∧ tt σ2 H2 fun b H3 =>
      if b = true then te σ2 H3 fun y H4 => ∃ acc, H4 D = some (.lst acc) ∧ acc.length < sizeLine ∧ Pv (i + 1) (upd H4 D (.lst (acc ++ [y]))) else Pv (i + 1) H3) (hd : ∀ H, Pv xs.length H → Qd H) :
    ∃ W : Nat → Nat → Hp → Prop, (∃ m, W 0 m (upd H1 D (.lst []))) ∧ ∀ i m H, W i m H →
      ((Ite K a).stop i H ∧ Qd H) ∨ ((Ite K a).go i H ∧ ∃ Nx : Hp → Prop, (∀ H', Nx H' → ∃ m', m' < m ∧ W (i + 1) m' H') ∧ ∀ x H', (Ite K a).yld i H x H' → g x (wipe σ vs) H' fun σ2 H2 => wipe σ2 vs = wipe σ vs ∧ tt σ2 H2 fun b H3 =>
        if b = true then te σ2 H3 fun y H4 => ∃ acc, H4 D = some (.lst acc) ∧ acc.length < sizeLine ∧ Nx (upd H4 D (.lst (acc ++ [y]))) else Nx H3) := by
  refine ⟨fun i m H => m = xs.length - i ∧ i ≤ xs.length ∧ Pv i H, ⟨xs.length, by simp, Nat.zero_le _, h0⟩, ?_⟩
  rintro i m H ⟨rfl, hi, p⟩
  have q := hl i H hi p
  by_cases hlt : i < xs.length
  · refine .inr ⟨⟨xs, xs[i], q, by simp [hlt]⟩, Pv (i + 1), fun H' p' => ⟨xs.length - (i + 1), by omega, rfl, hlt, p'⟩, fun v H' y => ?_⟩
    obtain ⟨T, x, e, hT, eH, y1⟩ := y
    subst e eH
    exact hs i x H T (y1 xs q) p hT
  · have e : i = xs.length := by omega
    subst e
    exact .inl ⟨⟨xs, q, Nat.le_refl _⟩, hd H p⟩
section
variable {X : Cx} {pos : Pos}
def tDispT (tk tv : TE) : TE := fun σ H Q => ∀ p, H p = none → tk σ (upd H p (.dT [])) fun x H1 => tv σ H1 fun y H2 => ∃ (b : Addr) (k : List Key), x = .ref b ∧ H2 b = some (.tup (k.map kV)) ∧ H2 p = some (.dT []) ∧ Q (.ref p) (upd H2 p (.dT [(k, y)]))
theorem pe_dispT {k v : Expr} {tk tv : TE} (hu : X.A.units < cLine) (hk : PE X k tk) (hv : PE X v tv) : PE X (.Dict [some k] [v] pos) (tDispT tk tv) := by
  intro pins s σ H Q I q
  have hn := I.hok.fresh (Nat.le_refl s.heap.objs.size)
  have I1 := I.laid (a := s.heap.objs.size) (o := .dT []) (h' := s.heap.push { cls := .type "dict", data := .dict #[] }) (t' := s.toks) (fun _ _ q => Heap.get?_push_of_some _ q) (Nat.le_refl _) (dt_empty s.heap I.big)
  rw [arm_eval_Dict, zip_pairTrees [some k] [v] X.env pos rfl rfl, dictDisplay_pairs _ (by simp [pairTrees]) (by simp [pairTrees])]
  refine wpAny_bind (wpAny_standAt (wpAny_bind ?_))
  unfold subDict
  refine wpAny_bind (wpAny_alloc ?_)
  refine wpAny_bind (wpAny_holding ?_)
  rw [if_pos (by simp [pairTrees])]
  refine wpAny_bind (pairTrees_cons_walk (thn (hk pins _ σ _ _ I1 (q _ hn)) fun u s1 ⟨x, H1, J1, rx, q1⟩ => thn (hv pins s1 σ H1 _ J1 q1) fun r s2 ⟨y, H2, J2, ry, b, ks, ex, hb, hp, q2⟩ => pairTrees_nil_walk ?_))
  subst ex
  cases rx
  refine wpAny_holding ?_
  simp only [List.forIn_cons, List.forIn_nil]
  obtain ⟨z, hd, xs, rel, dd⟩ := dt_of J2.hok hp
  cases rel
  refine wpAny_bind (wpAny_bind (wpAny_bind (wpAny_dictSet_heap (knd := tupleKind (mixKind X.prog X.w)) hu (key_of J2.hok hb) dd (fun h' dd' hs => wpAny_pure (wpAny_pure (wpAny_pure (wpAny_pure (wpAny_pure ?_))))) (Nat.zero_le _))))
  obtain ⟨qo, es, ep, hq, h2, h3, h4, _, h5⟩ := dd'
  refine ⟨.ref s.heap.objs.size, _, d_write (ob := .dT [(ks, y)]) J2 (by rw [hp]; exact True.intro) hs ⟨qo, hq⟩ ⟨by show 1 ≤ sizeLine; decide, hd, [(ks, b, r)], .cons ⟨rfl, ?_, ry⟩ .nil, qo, es, ep, hq, h2, h3, h4, h5⟩, rfl, q2⟩
  rw [upd_ne (ne_of hb hp (fun z => nomatch z))]
  exact hb
end
end L2
end
section
set_option Elab.async false
set_option linter.all false
set_option maxRecDepth 100000
set_option maxHeartbeats 4000000
namespace L2
open PySem PySem.Spec PyProof.Rows
section
variable {X : Cx}
def tRng (ta : TA) : TE := fun σ H Q => ta σ H fun vs H1 => ∃ n : Nat, vs = [.int (n : Int)] ∧ ∀ r, H1 r = none → Q (.ref r) (upd H1 r (.rng 0 (n : Int)))
theorem pe_rng {a : Expr} {ta : TA} {p pos : Pos} (hg : Gl X "range") (hm : X.mg "range" = none) (ha : PA X [a] ta) (hs : starEach [a] X.env = [(false, eval a X.env)] := by rfl) : PE X (.Call (.Name "range" p) [a] [] pos) (tRng ta) := by
  intro pins s σ H Q I h
  refine Call_ (ld_blt I hg hm boot_range (PyProof.Rows.callWith_type1 (thn (ha pos pins s σ H _ I h) fun us s1 ⟨vs, H1, I1, r1, q1⟩ => ?_) hs rfl))
  obtain ⟨n, e, q⟩ := q1
  subst e
  cases r1 with
  | cons r rr =>
    cases rr
    obtain ⟨t, rfl⟩ := r
    refine call_range_1 ?_
    exact ⟨.ref _, _, I1.laid (a := s1.heap.objs.size) (o := .rng 0 (n : Int)) (fun _ _ z => Heap.get?_push_of_some _ z) (Nat.le_refl _) ⟨_, _, _, Heap.get?_push_size _ rfl⟩, rfl, q _ (I1.hok.fresh (Nat.le_refl _))⟩
end
section
variable {X : Cx} {pins : List (Addr × Obj)} {σ : St} {H : Hp} {s : Shared}
theorem mkLam {params : Arguments} {body : Expr} {scope : Scope} {lpos : Pos} {cc tb : Addr} {Q : Value → Shared → Prop} {E : Value → Shared → Prop} (I : Inv X pins σ H s) (NB : NeedB X.mg X.base cc tb) (hcode : X.env.code = .ref cc)
    (hT : H tb = some (.tbl (lpos, X.env.qual ++ "<lambda>"))) (hdef : defaultsOf params X.env = ([], [])) (hfree : ∀ y ∈ scope.names, y.2 = .free → ∃ c, X.env.cells.lookup y.1 = some c)
    (k : ∀ f c' ctv s' H', Inv X pins σ H' s' → Same H H' → s'.heap.get? f = some (PySem.W.kla_obj "<lambda>" (X.env.qual ++ "<lambda>") params body scope (cloFrom X.env.cells scope.names []) ((X.mg "__name__").getD .none) c' ctv) →
      s'.heap.objs.size = f + 1 → s.heap.objs.size ≤ f → H' c' = some (.own tb) → s'.heap.CodeRec (.ref c') (X.env.qual ++ "<lambda>") → Q (.ref f) s') :
    wpAny (model X.prog X.w) X.A (eval (.Lambda params body scope lpos) X.env) Q E s := by
  refine PySem.W.kla_eval hdef ?_
  have hcl := closure_ok (scope := scope) (env := X.env) hfree
  have hg := I.mod.glob.keeps I.bk
  have C := NB.code.keeps I.bk
  obtain ⟨bm, ob, b1, b2, b3, b4, b5, b6⟩ := NB.blt
  have hb : s.heap.BuiltinsAt X.mg tb := ⟨bm, ob, b1, b2, b3, b4, I.bk _ _ b5, b6⟩
  obtain ⟨ps, hP, ht, hc⟩ := (show TabOk H s.heap tb _ from I.hok tb _ hT)
  have hgP : mainGlobals ≠ tb := fun z => by
    obtain ⟨o, es, ep, e, hd, _⟩ := hg
    rw [z, hP] at e
    cases e
    cases hd
  rcases hc with hnf | ⟨c', hf, hown, hrec⟩
  · refine PySem.W.kla_makeFunction (mg := X.mg) hcl I.ok.glob hg hcode C hP ht hnf hgP hb fun c' ctv h' tk hx hge hlt hrec htb => ?_
    have hcn : H c' = none := I.hok.fresh hge
    have nT : ∀ b, H b = none → b ≠ tb := fun b n z => by rw [z, hT] at n; cases n
    have kp : ∀ (F : Obj) b o, b ≠ tb → s.heap.get? b = some o → (h'.push F).get? b = some o := fun F b o hb e => Heap.get?_push_of_some _ (hx b o hb e)
    have ht2 : ∀ F : Obj, (h'.push F).get? tb = some (PySem.W.tabObj (ps ++ #[rawInt lpos.line, rawInt lpos.col, .ref c'])) := fun F => Heap.get?_push_of_some _ htb
    have un : ∀ F : Obj, Un X.fs [] H (upd H c' (.own tb)) s.heap (h'.push F) := fun F =>
      { keep := fun b o e n _ _ => kp F b o (nT b n) e
        slot := fun b o e n _ _ => ⟨o.slots, kp F b o (nT b n) e⟩
        free := fun b o e n _ => by rw [upd_ne (Nat.ne_of_lt (Nat.lt_of_lt_of_le (Heap.lt_size e) hge))]; exact n
        there := fun b o e _ => by
          by_cases z : b = tb
          · rw [z]; exact ⟨_, ht2 F⟩
          · exact ⟨o, kp F b o z e⟩
        tups := fun b xs e => by rw [upd_ne (ne_of_none e hcn)]; exact e
        frzs := fun b o u e => by rw [upd_ne (ne_of_none e hcn)]; exact e
        tbls := fun b p e => by rw [upd_ne (ne_of_none e hcn)]; exact e }
    have rec2 : ∀ F : Obj, (h'.push F).CodeRec (.ref c') (X.env.qual ++ "<lambda>") := fun F => by
      obtain ⟨c2, oc, vs, tq, q1, q2, q3, q4⟩ := hrec
      exact ⟨c2, oc, vs, tq, q1, Heap.get?_push_of_some _ q2, q3, q4⟩
    have hok : ∀ F : Obj, HOk X.prog X.w (upd H c' (.own tb)) (h'.push F) := fun F b u e => by
      by_cases z : b = c'
      · rw [z, upd_same] at e
        cases e
        obtain ⟨c2, oc, _, _, q1, q2, _⟩ := rec2 F
        cases q1
        rw [z]
        exact ⟨oc, q2⟩
      · rw [upd_ne z] at e
        by_cases z2 : b = tb
        · rw [z2, hT] at e
          cases e
          rw [z2]
          have el : (ps ++ #[rawInt lpos.line, rawInt lpos.col, Value.ref c']).toList = ps.toList ++ [rawInt lpos.line, rawInt lpos.col, Value.ref c'] := by simp
          exact ⟨_, ht2 F, by rw [el]; exact TriplesOk_snoc _ _ _ _ ht, .inr ⟨c', by rw [el]; exact codeAmong_snoc _ ht hnf, upd_same, rec2 F⟩⟩
        · refine (I.hok b u e).stay (fun c v hc q => kp F c v (fun w => ?_) q) (fun c q => by rw [upd_ne (ne_of_none q hcn)]; exact q) fun c xs q => by rw [upd_ne (ne_of_none q hcn)]; exact q
          rcases hc with w2 | w2
          · exact z2 (w2 ▸ w)
          · rw [w, hT] at w2
            cases w2
    refine k h'.objs.size c' ctv _ _ (I.un (t' := tk) (un _) (hok _)) (fun b u e => by rw [upd_ne (ne_of_none e hcn)]; exact e) (Heap.get?_push_size _ rfl) (Heap.size_push ..) (Nat.le_trans hge (Nat.le_of_lt hlt)) upd_same (rec2 _)
  · refine PySem.W.kla_makeFunctionHit (mg := X.mg) hcl I.ok.glob hg hcode C hP ht hf hb fun ctv h' tk hk hsz => ?_
    refine k h'.objs.size c' ctv _ H (I.kept (t' := tk) fun b u q => Heap.get?_push_of_some _ (hk b u q)) (Same.refl H) (Heap.get?_push_size _ rfl) (Heap.size_push ..) hsz hown ?_
    obtain ⟨c2, oc, vs, tq, q1, q2, q3, q4⟩ := hrec
    exact ⟨c2, oc, vs, tq, q1, Heap.get?_push_of_some _ (hk _ _ q2), q3, q4⟩
end
abbrev lamArgs (pa : Pos) : Arguments := { posonlyargs := [], args := [{ arg := "c", annotation := none, pos := pa }], vararg := none, kwonlyargs := [], kw_defaults := [], kwarg := none, defaults := [] }
abbrev lamBody (q1 q2 q3 q4 : Pos) : Expr := .UnaryOp .USub (.Subscript (.Name "wants" q1) (.Name "c" q2) q3) q4
abbrev lamScope : Scope := { kind := .function, names := [(Str.ofString "c", .local), (Str.ofString "wants", .free)], isGenerator := false, isCoroutine := false, more := [] }
theorem lamCall {prog : Program} {w : World} {A : Around} {s : Shared} {f c' cell a L : Addr} {qual : Str} {ctv pm : Value} {its : List Value} {ns : List Int} {z : Nat} {tz : Tok} {h₀ : Heap} {m : Str → Option Value} {nw : List (Addr × Obj)} {pa q1 q2 q3 q4 : Pos}
    (hroom : A.depth < recursionLimit) (hf : s.heap.get? f = some (PySem.W.kla_obj "<lambda>" qual (lamArgs pa) (lamBody q1 q2 q3 q4) lamScope [("wants", cell)] pm c' ctv)) (hrec : s.heap.CodeRec (.ref c') qual) (hcell : s.heap.IsCell cell (some (.ref a)))
    (hl : s.heap.IsList a its.toArray) (hi : IntsAre its ns) (hz : z < ns.length) (h64 : ns.length ≤ 64) (lim : s.heap.NoLimit) (F : Fr h₀ L s.heap m) (N : News h₀ L s.heap nw) :
    wpAny (model prog w) A (call (.ref f) [.int (z : Int) tz]) (KskEnd h₀ L m nw (-(ns.getD (z : Int).toNat 0)) s) (fun _ _ => False) s := by
  refine wpAny_call (PySem.W.kla_callFunE hroom hf rfl rfl rfl rfl hrec ?_)
  have eb : bindArgs (PySem.W.kla_fn "<lambda>" qual (lamArgs pa) (lamBody q1 q2 q3 q4) lamScope [("wants", cell)] pm (.ref c') ctv) ⟨[.int (z : Int) tz], []⟩ = pure [(Str.ofString "c", Value.int (z : Int) tz)] := rfl
  rw [eb]
  refine wpAny_pure (wpAny_newFunctionEnv (by show ∀ x ∈ lamScope.names, x.2 ≠ NameKind.cell; decide) (fun x hx => ?_) (fun h₁ hns hsb => ⟨lim.fresh _ hsb, PySem.W.kla_codeExpr ?_⟩) rfl)
  · rw [List.mem_singleton.mp hx]
    rfl
  · have hk : ∀ b o, s.heap.get? b = some o → h₁.get? b = some o := fun b o e => hsb.extBut b o (Nat.ne_of_lt (Heap.lt_size e)) (Heap.get?_push_of_some _ e)
    refine UnaryOp_ (Subscript_ ?_)
    obtain ⟨oc, c1, c2⟩ := hcell
    refine wpAny_Name (wpAny_loadName_free (c := cell) (v := .ref a) rfl rfl rfl ⟨oc, hk _ _ c1, c2⟩ ?_) (by decide)
    refine wpAny_Name (wpAny_loadName_local (v := .int (z : Int) tz) rfl rfl hns rfl ?_) (by decide)
    obtain ⟨ol, l1, l2⟩ := hl
    refine item_list_intsR (s := { s with heap := h₁, toks := s.toks + 1 }) ⟨ol, hk _ _ l1, l2⟩ hi (by omega) (by omega) (by omega) (fun t => ?_)
    refine neg_int ?_
    exact ⟨h₁, _, _, rfl, rfl, F.keeps hk, N.grown hk⟩
def noObjs (h : Heap) : Heap := { objs := #[], life := h.life }
theorem noObjs_get (h : Heap) (a : Addr) : (noObjs h).get? a = none := Heap.get?_none_of_le (Nat.zero_le a)
theorem fr_all {h : Heap} {L : Addr} {m : Str → Option Value} (hn : h.Ns L m) : Fr (noObjs h) L h m :=
  ⟨hn, fun b o e => (by rw [noObjs_get] at e; cases e), Nat.zero_le L⟩
section
variable {X : Cx}
def keyOf (ns : List Int) (x : Int) : Int := -(ns.getD x.toNat 0)
def tNeedy (i : Nat) (tb : Addr) (tp : Pos × Str) (t : TA) : TE := fun σ H Q => t σ H fun vs H1 => ∃ (r : Addr) (n : Nat) (a : Addr) (ns : List Int), vs = [.ref r] ∧ H1 r = some (.rng 0 (n : Int)) ∧ n ≤ 64 ∧ σ[i]? = some (some (.ref a)) ∧ H1 a = some (.lst (ns.map V.int)) ∧ ns.length = n ∧ H1 tb = some (.tbl tp) ∧
  ∀ (out : List Int) (H2 : Hp) (p : Addr), out.Perm (upTo n) → out.Pairwise (fun x y => keyOf ns x ≤ keyOf ns y) → (∀ z, out.filter (fun x => keyOf ns x == z) = (upTo n).filter (fun x => keyOf ns x == z)) → Same H1 H2 → H1 p = none → H2 p = some (.lst (out.map V.int)) → Q (.ref p) H2
theorem pe_needy {e : Expr} {t : TA} {i : Nat} {cc tb : Addr} {pa q1 q2 q3 q4 lpos p kp pos : Pos} (hg : Gl X "sorted") (hm : X.mg "sorted" = none) (hr : Room 2 X.A) (hcalm : X.calm = true) (ha : PA X [e] t) (NB : NeedB X.mg X.base cc tb) (hcode : X.env.code = .ref cc)
    (hN : X.N[i]? = some "wants") (hk : X.env.kindOf "wants" = some .cell) (hfn : X.fn "wants" = true) (he : starEach [e] X.env = [(false, eval e X.env)] := by rfl) :
    PE X (.Call (.Name "sorted" p) [e] [⟨some "key", .Lambda (lamArgs pa) (lamBody q1 q2 q3 q4) lamScope lpos, kp⟩] pos) (tNeedy i tb (lpos, X.env.qual ++ "<lambda>") t) := by
  intro pins s σ H Q I h
  refine wpAny_Call_Name_kw (ld_blt I hg hm boot_sorted ?_)
  refine PyProof.Rows.callWith_kw (thn (ha pos pins s σ H _ I h) fun us s1 ⟨vs, H1, I1, r1, r, n, a, ns, ev, hrg, h64, hσ, hal, hlen, hT, q⟩ => ?_) (by rw [he]; rfl) (by rw [he]; rfl)
  subst ev
  rw [Vals.ref1 r1]
  have vis : Vis X.env.scope "wants" := .inr (.inl hk)
  refine kws_cons (mkLam I1 NB hcode hT rfl (fun y hy hfr => ?_) fun f c' ctv s' H' I' sm hf hfs hge hown hrec => kws_nil ?_)
  · have hy : y = (Str.ofString "c", NameKind.local) ∨ y = (Str.ofString "wants", NameKind.free) := by simpa using hy
    rcases hy with rfl | rfl
    · cases hfr
    · exact I.ok.has "wants" (.inl hk)
  show wpAny _ _ (call (.builtin "sorted") [.ref r] [(Str.ofString "key", .ref f)]) _ _ _
  obtain ⟨m, hn, hloc⟩ := I'.loc
  obtain ⟨u, ru, lk⟩ := hloc i "wants" (.ref a) hN hσ vis
  obtain rfl : u = Value.ref a := ru
  obtain ⟨cell, hc1, hc2⟩ : ∃ c, X.env.cells.lookup (Str.ofString "wants") = some c ∧ s'.heap.IsCell c (some (.ref a)) := by
    rcases lk with ⟨z, _⟩ | ⟨_, c, x1, x2⟩
    · rw [hk] at z; cases z
    · exact ⟨c, x1, x2⟩
  have ecl : cloFrom X.env.cells lamScope.names [] = [(Str.ofString "wants", cell)] := by
    show [(Str.ofString "wants", (X.env.cells.lookup (Str.ofString "wants")).getD 0)] = _
    rw [show X.env.cells.lookup (Str.ofString "wants") = some cell from hc1]
    rfl
  rw [ecl] at hf
  obtain ⟨t1, t2, t3, er⟩ := (show ∃ t u v, s'.heap.get? r = some { cls := .type "range", data := .fields #[.int 0 t, .int (n : Int) u, .int 1 v] } from I'.hok r _ (sm _ _ hrg))
  obtain ⟨_, its, nn, rv, ea⟩ := (show ObjOk X.prog X.w H' s'.heap a (.lst (ns.map V.int)) from I'.hok a _ (sm _ _ hal))
  have hi := rv.ints
  have neL : ∀ b o, H' b = some o → b ≠ X.env.locals := fun b o e z => by rw [z, I'.free] at e; cases e
  have hfL : f ≠ X.env.locals := by
    have h1 : X.env.locals < s1.heap.objs.size := I1.lt
    exact Nat.ne_of_gt (Nat.lt_of_lt_of_le h1 hge)
  have hcL : cell ≠ X.env.locals := I'.cne _ _ hc1
  have F : Fr (noObjs s'.heap) X.env.locals s'.heap m := fr_all hn
  have N : News (noObjs s'.heap) X.env.locals s'.heap (allNews (noObjs s'.heap) s'.heap X.env.locals) := news_all
  have mem : ∀ b o, b ≠ X.env.locals → s'.heap.get? b = some o → (b, o) ∈ allNews (noObjs s'.heap) s'.heap X.env.locals := fun b o hb e => mem_allNews hb (noObjs_get _ _) e
  refine sortedRange (keyOf ns) F N (I'.ok.hd hcalm) er h64 hf hfs (fun z tz h tk own hz F' N' => ?_) fun D vs' ns' c h' tk F' N' hD hI hp hpw hfl => ?_
  · have kp : ∀ b o, b ≠ X.env.locals → s'.heap.get? b = some o → h.get? b = some o := fun b o hb e => (N' (b, o) (List.mem_append_left _ (mem b o hb e))).1
    obtain ⟨j, hj, rfl⟩ := List.mem_map.mp hz
    have hj := List.mem_range.mp hj
    obtain ⟨c2, oc, vs2, tq, e1, e2, e3, e4⟩ := hrec
    cases e1
    obtain ⟨oc1, d1, d2⟩ := hc2
    have lim : h.NoLimit := by
      obtain ⟨mc, ⟨o, es, ep, x1, x2⟩, x3⟩ := I'.nolimit
      obtain ⟨mc', hns', _⟩ := I'.mod.nolimit
      have hlt := hns'.lt
      have := I'.ok.bsz
      have := I'.ok.above
      exact ⟨mc, ⟨o, es, ep, kp _ _ (Nat.ne_of_lt (Nat.lt_of_lt_of_le hlt (Nat.le_trans I'.ok.bsz I'.ok.above))) x1, x2⟩, x3⟩
    exact lamCall (s := { s' with heap := h, toks := tk }) (hr.in1.in1.depth) (kp _ _ hfL hf) ⟨c', oc, vs2, tq, rfl, kp _ _ (neL _ _ hown) e2, e3, e4⟩ ⟨oc1, kp _ _ hcL d1, d2⟩ ⟨_, kp _ _ (neL _ _ (sm _ _ hal)) ea, rfl, nn, rfl⟩ hi (by omega) (by omega) lim F' N'
  · have kp : ∀ b o, b ≠ X.env.locals → s'.heap.get? b = some o → h'.get? b = some o := fun b o hb e => (N' (b, o) (List.mem_cons_of_mem _ (mem b o hb e))).1
    have hDn : H' D = none := I'.hok.fresh hD
    have hDo := (N' _ (.head _)).1
    have hlen2 : (ns'.map V.int).length ≤ sizeLine := by
      rw [List.length_map, hp.length_eq, sizeLine_eq]
      unfold upTo
      rw [List.length_map, List.length_range]
      omega
    have I2 : Inv X pins σ (upd H' D (.lst (ns'.map V.int))) { s' with heap := h', toks := tk } := by
      refine I'.step (g' := s'.gens) (d' := s'.drawn) (ch := []) (fun _ z => nomatch z) (fun b o hb _ _ e _ => kp b o hb e) (fun b o hb _ _ e _ => ⟨o.slots, kp b o hb e⟩) (fun b o _ e n => ?_) (fun b o _ e => ?_) (fun b xs e => ?_) (fun b o u e => ?_) (fun b p e => ?_) (fun m' hm' => ?_) (fun b u e => ?_) I'.bare
      · rw [upd_ne (Nat.ne_of_lt (Nat.lt_of_lt_of_le (Heap.lt_size e) hD))]; exact n
      · by_cases z : b = X.env.locals
        · obtain ⟨oL, _, _, x1, _⟩ := F'.ns
          rw [z]; exact ⟨oL, x1⟩
        · exact ⟨o, kp b o z e⟩
      · rw [upd_ne (ne_of_none e hDn)]; exact e
      · rw [upd_ne (ne_of_none e hDn)]; exact e
      · rw [upd_ne (ne_of_none e hDn)]; exact e
      · have em : m' = m := by
          obtain ⟨o1, es1, ep1, x1, x2, x3, x4⟩ := hm'
          obtain ⟨o2, es2, ep2, y1, y2, y3, y4⟩ := hn
          rw [x1] at y1
          cases y1
          rw [x2] at y2
          cases y2
          funext nm
          rw [← x4 nm, ← y4 nm]
        rw [em]
        exact F'.ns
      · by_cases z : b = D
        · rw [z, upd_same] at e
          cases e
          rw [z]
          exact ⟨hlen2, vs', c, vals_of_ints hI, hDo⟩
        · rw [upd_ne z] at e
          refine (I'.hok b u e).stay (fun c2 v hc q => kp c2 v ?_ q) (fun c2 q => by rw [upd_ne (ne_of_none q hDn)]; exact q) fun c2 xs q => by rw [upd_ne (ne_of_none q hDn)]; exact q
          rcases hc with w2 | w2
          · rw [w2]; exact neL b u e
          · exact neL c2 _ w2
    exact ⟨.ref D, _, I2, rfl, q ns' _ D hp hpw hfl (fun b u e => by rw [upd_ne (ne_of_none (sm b u e) hDn)]; exact sm b u e) (sm.free hDn) upd_same⟩
end
end L2
end
section
set_option linter.all false
namespace Ev
open Rc94
abbrev zs (r : List Nat) : List Int := r.map fun (b : Nat) => (b : Int)
theorem zs_len (r : List Nat) : (zs r).length = r.length := List.length_map ..
theorem zs_sum : ∀ r : List Nat, (zs r).sum = ((r.sum : Nat) : Int)
  | [] => rfl
  | a :: r => by
    show ((a : Int) :: zs r).sum = (((a :: r).sum : Nat) : Int)
    rw [List.sum_cons, List.sum_cons, zs_sum r]
    omega
theorem zs_at {r : List Nat} {i : Nat} {x : Int} (h : (zs r)[i]? = some x) : ∃ n : Nat, r[i]? = some n ∧ x = (n : Int) := by
  rw [List.getElem?_map] at h
  cases e : r[i]? with
  | none => rw [e] at h; cases h
  | some n => rw [e] at h; exact ⟨n, rfl, (Option.some.inj h).symm⟩
theorem zs_inj : ∀ {a b : List Nat}, zs a = zs b → a = b
  | [], [], _ => rfl
  | [], _ :: _, h => by cases h
  | _ :: _, [], h => by cases h
  | x :: a, y :: b, h => by
    obtain ⟨h1, h2⟩ := List.cons.inj (show (x : Int) :: zs a = (y : Int) :: zs b from h)
    rw [zs_inj h2, Int.ofNat.inj h1]
theorem zs_nat (r : List Nat) : (zs r).map Int.toNat = r := by
  rw [List.map_map]
  exact (List.map_congr_left fun x _ => by show ((x : Int)).toNat = x; omega).trans (List.map_id r)
theorem nat_zs {l : List Int} (h : ∀ x ∈ l, 0 ≤ x) : zs (l.map Int.toNat) = l := by
  show (l.map Int.toNat).map _ = l
  rw [List.map_map]
  exact (List.map_congr_left fun x hx => by have := h x hx; show ((x.toNat : Nat) : Int) = x; omega).trans (List.map_id l)
theorem put_perm (x : Nat) : ∀ l : Row, (put x l).Perm (x :: l)
  | [] => .refl _
  | y :: r => by
    unfold put
    by_cases h : y ≤ x
    · rw [if_pos h]
    · rw [if_neg h]
      exact ((put_perm x r).cons y).trans (.swap x y r)
theorem put_mem {x y : Nat} {l : Row} (h : y ∈ put x l) : y = x ∨ y ∈ l := by
  have := (put_perm x l).mem_iff.mp h
  exact List.mem_cons.mp this
theorem put_pw (x : Nat) : ∀ {l : Row}, l.Pairwise (fun a b => b ≤ a) → (put x l).Pairwise (fun a b => b ≤ a)
  | [], _ => List.pairwise_singleton _ _
  | y :: r, h => by
    obtain ⟨h1, h2⟩ := List.pairwise_cons.mp h
    unfold put
    by_cases k : y ≤ x
    · rw [if_pos k]
      refine List.pairwise_cons.mpr ⟨fun z hz => ?_, h⟩
      rcases List.mem_cons.mp hz with rfl | hz
      · exact k
      · exact Nat.le_trans (h1 z hz) k
    · rw [if_neg k]
      refine List.pairwise_cons.mpr ⟨fun z hz => ?_, put_pw x h2⟩
      rcases put_mem hz with rfl | hz
      · omega
      · exact h1 z hz
theorem sorted_perm : ∀ l : Row, (sorted l).Perm l
  | [] => .refl _
  | x :: l => (put_perm x (sorted l)).trans ((sorted_perm l).cons x)
theorem sorted_pw : ∀ l : Row, (sorted l).Pairwise (fun a b => b ≤ a)
  | [] => .nil
  | x :: l => put_pw x (sorted_pw l)
theorem sorted_len (l : Row) : (sorted l).length = l.length := (sorted_perm l).length_eq
theorem sorted_sum (l : Row) : (sorted l).sum = l.sum := (sorted_perm l).sum_nat
theorem sorted_mem {l : Row} {x : Nat} : x ∈ sorted l ↔ x ∈ l := (sorted_perm l).mem_iff
theorem pw_same {α : Type} {R : α → α → Prop} (as : ∀ a b, R a b → R b a → a = b) : ∀ {l m : List α}, l.Perm m → l.Pairwise R → m.Pairwise R → l = m
  | [], m, h, _, _ => (List.nil_perm.mp h).symm
  | a :: l, [], h, _, _ => nomatch (List.perm_nil.mp h)
  | a :: l, b :: m, h, hl, hm => by
    obtain ⟨l1, l2⟩ := List.pairwise_cons.mp hl
    obtain ⟨m1, m2⟩ := List.pairwise_cons.mp hm
    have e : a = b := by
      have ha : a ∈ b :: m := h.mem_iff.mp (.head _)
      have hb : b ∈ a :: l := h.mem_iff.mpr (.head _)
      rcases List.mem_cons.mp ha with e | ha
      · exact e
      · rcases List.mem_cons.mp hb with e | hb
        · exact e.symm
        · exact as _ _ (l1 b hb) (m1 a ha)
    subst e
    rw [pw_same as h.cons_inv l2 m2]
theorem sorted_of {ns : List Int} {l : Row} (hp : ns.Perm (zs l)) (hs : ns.Pairwise (fun a b => b ≤ a)) : ns = zs (sorted l) := by
  refine pw_same (R := fun a b => b ≤ a) (fun a b h1 h2 => Int.le_antisymm h2 h1) (hp.trans ((sorted_perm l).map _).symm) hs ?_
  exact List.pairwise_map.mpr ((sorted_pw l).imp fun h => Int.ofNat_le.mpr h)
theorem sorted_id {l : Row} (h : l.Pairwise (fun a b => b ≤ a)) : sorted l = l :=
  pw_same (R := fun a b => b ≤ a) (fun a b h1 h2 => Nat.le_antisymm h2 h1) (sorted_perm l) (sorted_pw l) h
theorem sorted_sorted (l : Row) : sorted (sorted l) = sorted l := sorted_id (sorted_pw l)
theorem over_iff {x y : Row} : over x y = true ↔ x.length = y.length ∧ x.sum = y.sum ∧ ∀ k, k ≤ x.length → head y k ≤ head x k := by
  unfold over
  rw [Bool.and_eq_true, Bool.and_eq_true, beq_iff_eq, beq_iff_eq, List.all_eq_true]
  constructor
  · rintro ⟨h1, h2, h3⟩
    refine ⟨h1, h2, fun k hk => ?_⟩
    by_cases e : k = x.length
    · subst e
      unfold head
      rw [List.take_of_length_le (by rw [sorted_len, h1]; exact Nat.le_refl _), List.take_of_length_le (by rw [sorted_len]; exact Nat.le_refl _), sorted_sum, sorted_sum, h2]
      exact Nat.le_refl _
    · exact of_decide_eq_true (h3 k (List.mem_range.mpr (by omega)))
  · rintro ⟨h1, h2, h3⟩
    exact ⟨h1, h2, fun k hk => decide_eq_true (h3 k (Nat.le_of_lt (List.mem_range.mp hk)))⟩
theorem over_not {x y : Row} {k : Nat} (hk : k ≤ x.length) (h : head x k < head y k) : over x y = false := by
  cases e : over x y with
  | false => rfl
  | true => exact absurd ((over_iff.mp e).2.2 k hk) (by omega)
theorem head_succ {l : Row} {i n : Nat} (h : (sorted l)[i]? = some n) : head l (i + 1) = head l i + n := by
  unfold head
  rw [List.take_add_one, h, List.sum_append]
  simp
end Ev
end
section
set_option linter.all false
namespace Ev
open Rc94
inductive Cl where
  | c0
  | c1 (i : Int) (r : List Nat)
  | c2 (i m : Int)
  | c3 (i j : Int)
  | c4 (i p q a : Int)
  | c5 (i j : Int)
  | c6 (i j k : Int)
  | c7 (i j : Int)
  | c8 (i j m : Int)
def Cl.flat : Cl → List Int
  | .c0 => [0]
  | .c1 i r => 1 :: i :: ((r.length : Nat) : Int) :: zs r
  | .c2 i m => [2, i, m]
  | .c3 i j => [3, i, j]
  | .c4 i p q a => [4, i, p, q, a]
  | .c5 i j => [5, i, j]
  | .c6 i j k => [6, i, j, k]
  | .c7 i j => [7, i, j]
  | .c8 i j m => [8, i, j, m]
def Cl.good : Cl → Prop
  | .c1 _ r => r.length ≤ 12
  | _ => True
def Cl.call : Cl → Rc94.Call
  | .c0 => .init
  | .c1 i r => .row i r ((r.length : Nat) : Int)
  | .c2 i m => .sorted i m
  | .c3 i j => .over i j
  | .c4 i p q a => .move i p q a
  | .c5 i j => .step i j
  | .c6 i j k => .meet i j k
  | .c7 i j => .count i j
  | .c8 i j m => .made i j m
def ansOf (a : Ans) : List Int := a.value :: a.numbers.map fun (b : Nat) => (b : Int)
def toldAll : Abs → List Cl → List Int
  | _, [] => []
  | s, c :: r => ((ansOf (does s c.call).2).length : Int) :: (ansOf (does s c.call).2 ++ toldAll (does s c.call).1 r)
def flatAll : List Cl → List Int
  | [] => []
  | c :: r => c.flat ++ flatAll r
theorem len2 {α : Type} : ∀ {l : List α}, ¬ l.length < 2 → ∃ a b t, l = a :: b :: t
  | [], h => absurd (show 0 < 2 by decide) h
  | [_], h => absurd (show 1 < 2 by decide) h
  | a :: b :: t, _ => ⟨a, b, t, rfl⟩
theorem len3 {α : Type} {l : List α} (h : ¬ l.length < 3) : ∃ a b c t, l = a :: b :: c :: t := by
  obtain ⟨a, b, t, rfl⟩ := len2 (l := l) (by omega)
  cases t with
  | nil => exact absurd (show 2 < 3 by decide) h
  | cons c t => exact ⟨a, b, c, t, rfl⟩
theorem len4 {α : Type} {l : List α} (h : ¬ l.length < 4) : ∃ a b c d t, l = a :: b :: c :: d :: t := by
  obtain ⟨a, b, c, t, rfl⟩ := len3 (l := l) (by omega)
  cases t with
  | nil => exact absurd (show 3 < 4 by decide) h
  | cons d t => exact ⟨a, b, c, d, t, rfl⟩
theorem call_is {l t : List Int} {c : List (List Int)} (h : PyFlat.call PyRc94.shape l = some (c, t)) (ha : Rc94Neutral.asked1 (PyRc94.whole c) = true) :
    ∃ k : Cl, l = k.flat ++ t ∧ k.good ∧ Rc94Neutral.callOf (PyRc94.whole c) = some k.call := by
  cases l with
  | nil => cases h
  | cons p r =>
    unfold PyFlat.call at h
    dsimp only at h
    unfold PyRc94.shape at h
    by_cases e0 : p = 0
    · subst e0
      rw [if_pos rfl] at h
      obtain ⟨rfl, rfl⟩ := Prod.mk.inj (Option.some.inj (show some ([[0]], r) = some (c, t) from h))
      exact ⟨.c0, rfl, trivial, rfl⟩
    rw [if_neg e0] at h
    by_cases e1 : p = 1
    · subst e1
      rw [if_pos rfl] at h
      cases r with
      | nil => cases h
      | cons i r =>
        have h1 : (match PyFlat.rows 1 r with | none => none | some (xs, t) => some (([1, i] : List Int) :: xs, t)) = some (c, t) := by
          dsimp only at h
          rw [if_neg (by simp)] at h
          exact h
        cases r with
        | nil => cases h1
        | cons n r =>
          by_cases hn : 0 ≤ n ∧ n.toNat ≤ r.length
          · have e : PyFlat.rows 1 (n :: r) = some ([r.take n.toNat], r.drop n.toNat) := by
              unfold PyFlat.rows PyFlat.row PyFlat.rows
              dsimp only
              rw [if_pos hn]
            rw [e] at h1
            obtain ⟨rfl, rfl⟩ := Prod.mk.inj (Option.some.inj (show some (([1, i] : List Int) :: [r.take n.toNat], r.drop n.toNat) = some (c, t) from h1))
            have hl : (r.take n.toNat).length = n.toNat := by rw [List.length_take]; omega
            have ha' : (Rc94Neutral.whole32 i && (((r.take n.toNat).all (fun (z : Int) => Rc94Neutral.natural z 16) && Rc94Neutral.long (r.take n.toNat) ((r.take n.toNat).length : Int) 1 12) && (Rc94Neutral.whole32 ((r.take n.toNat).length : Int)))) = true := ha
            rw [Bool.and_eq_true, Bool.and_eq_true, Bool.and_eq_true] at ha'
            have hz : ∀ x ∈ r.take n.toNat, 0 ≤ x := fun x hx => by
              have := List.all_eq_true.mp ha'.2.1.1 x hx
              unfold Rc94Neutral.natural at this
              rw [Bool.and_eq_true] at this
              exact of_decide_eq_true this.1
            have h12 : (r.take n.toNat).length ≤ 12 := by
              have := of_decide_eq_true (show decide (((r.take n.toNat).length : Int) = if (1 : Int) ≤ ((r.take n.toNat).length : Int) ∧ ((r.take n.toNat).length : Int) ≤ 12 then ((r.take n.toNat).length : Int) else 0) = true from ha'.2.1.2)
              by_cases q : (1 : Int) ≤ ((r.take n.toNat).length : Int) ∧ ((r.take n.toNat).length : Int) ≤ 12
              · omega
              · rw [if_neg q] at this
                omega
            refine ⟨.c1 i ((r.take n.toNat).map Int.toNat), ?_, ?_, ?_⟩
            · show 1 :: i :: n :: r = 1 :: i :: (((r.take n.toNat).map Int.toNat).length : Int) :: (zs ((r.take n.toNat).map Int.toNat) ++ r.drop n.toNat)
              rw [List.length_map, hl, nat_zs hz, List.take_append_drop, Int.toNat_of_nonneg hn.1]
            · show ((r.take n.toNat).map Int.toNat).length ≤ 12
              rw [List.length_map]
              exact h12
            · show some (Rc94.Call.row i (Rc94Neutral.natsOf (r.take n.toNat)) ((r.take n.toNat).length : Int)) = some (Rc94.Call.row i ((r.take n.toNat).map Int.toNat) ((((r.take n.toNat).map Int.toNat).length : Nat) : Int))
              rw [List.length_map]
              rfl
          · have e : PyFlat.rows 1 (n :: r) = none := by
              unfold PyFlat.rows PyFlat.row
              dsimp only
              rw [if_neg hn]
            rw [e] at h1
            cases h1
    rw [if_neg e1] at h
    by_cases e2 : p = 2
    · subst e2
      rw [if_pos rfl] at h
      by_cases hl : r.length < 2
      · dsimp only at h
        rw [if_pos hl] at h
        cases h
      · obtain ⟨a, b, u, rfl⟩ := len2 hl
        dsimp only at h
        rw [if_neg hl] at h
        obtain ⟨rfl, rfl⟩ := Prod.mk.inj (Option.some.inj (show some ([[2, a, b]], u) = some (c, t) from h))
        exact ⟨.c2 a b, rfl, trivial, rfl⟩
    rw [if_neg e2] at h
    by_cases e3 : p = 3
    · subst e3
      rw [if_pos rfl] at h
      by_cases hl : r.length < 2
      · dsimp only at h
        rw [if_pos hl] at h
        cases h
      · obtain ⟨a, b, u, rfl⟩ := len2 hl
        dsimp only at h
        rw [if_neg hl] at h
        obtain ⟨rfl, rfl⟩ := Prod.mk.inj (Option.some.inj (show some ([[3, a, b]], u) = some (c, t) from h))
        exact ⟨.c3 a b, rfl, trivial, rfl⟩
    rw [if_neg e3] at h
    by_cases e4 : p = 4
    · subst e4
      rw [if_pos rfl] at h
      by_cases hl : r.length < 4
      · dsimp only at h
        rw [if_pos hl] at h
        cases h
      · obtain ⟨a, b, d, e, u, rfl⟩ := len4 hl
        dsimp only at h
        rw [if_neg hl] at h
        obtain ⟨rfl, rfl⟩ := Prod.mk.inj (Option.some.inj (show some ([[4, a, b, d, e]], u) = some (c, t) from h))
        exact ⟨.c4 a b d e, rfl, trivial, rfl⟩
    rw [if_neg e4] at h
    by_cases e5 : p = 5
    · subst e5
      rw [if_pos rfl] at h
      by_cases hl : r.length < 2
      · dsimp only at h
        rw [if_pos hl] at h
        cases h
      · obtain ⟨a, b, u, rfl⟩ := len2 hl
        dsimp only at h
        rw [if_neg hl] at h
        obtain ⟨rfl, rfl⟩ := Prod.mk.inj (Option.some.inj (show some ([[5, a, b]], u) = some (c, t) from h))
        exact ⟨.c5 a b, rfl, trivial, rfl⟩
    rw [if_neg e5] at h
    by_cases e6 : p = 6
    · subst e6
      rw [if_pos rfl] at h
      by_cases hl : r.length < 3
      · dsimp only at h
        rw [if_pos hl] at h
        cases h
      · obtain ⟨a, b, d, u, rfl⟩ := len3 hl
        dsimp only at h
        rw [if_neg hl] at h
        obtain ⟨rfl, rfl⟩ := Prod.mk.inj (Option.some.inj (show some ([[6, a, b, d]], u) = some (c, t) from h))
        exact ⟨.c6 a b d, rfl, trivial, rfl⟩
    rw [if_neg e6] at h
    by_cases e7 : p = 7
    · subst e7
      rw [if_pos rfl] at h
      by_cases hl : r.length < 2
      · dsimp only at h
        rw [if_pos hl] at h
        cases h
      · obtain ⟨a, b, u, rfl⟩ := len2 hl
        dsimp only at h
        rw [if_neg hl] at h
        obtain ⟨rfl, rfl⟩ := Prod.mk.inj (Option.some.inj (show some ([[7, a, b]], u) = some (c, t) from h))
        exact ⟨.c7 a b, rfl, trivial, rfl⟩
    rw [if_neg e7] at h
    by_cases e8 : p = 8
    · subst e8
      rw [if_pos rfl] at h
      by_cases hl : r.length < 3
      · dsimp only at h
        rw [if_pos hl] at h
        cases h
      · obtain ⟨a, b, d, u, rfl⟩ := len3 hl
        dsimp only at h
        rw [if_neg hl] at h
        obtain ⟨rfl, rfl⟩ := Prod.mk.inj (Option.some.inj (show some ([[8, a, b, d]], u) = some (c, t) from h))
        exact ⟨.c8 a b d, rfl, trivial, rfl⟩
    rw [if_neg e8] at h
    cases h
theorem calls_are : ∀ (f : Nat) (l : List Int) (cs : List (List (List Int))) (s : Abs), PyFlat.calls PyRc94.shape f l = some cs → (∀ c ∈ cs.map PyRc94.whole, Rc94Neutral.asked1 c = true) →
    ∃ ks : List Cl, l = flatAll ks ∧ (∀ k ∈ ks, k.good) ∧ ks.length = cs.length ∧ PyFlat.told (PyFlat.played Rc94Neutral.step s (cs.map PyRc94.whole)) = toldAll s ks
  | f, [], cs, s, h, _ => by
    have h' : some ([] : List (List (List Int))) = some cs := by cases f <;> exact h
    obtain rfl := Option.some.inj h'
    exact ⟨[], rfl, (fun k hk => nomatch hk), rfl, rfl⟩
  | 0, _ :: _, _, _, h, _ => by cases h
  | f + 1, p :: r, cs, s, h, ha => by
    have h' : (match PyFlat.call PyRc94.shape (p :: r) with | none => none | some (c, t) => match PyFlat.calls PyRc94.shape f t with | none => none | some ds => some (c :: ds)) = some cs := h
    cases e : PyFlat.call PyRc94.shape (p :: r) with
    | none => rw [e] at h'; cases h'
    | some q =>
      obtain ⟨c, t⟩ := q
      rw [e] at h'
      have h2 : (match PyFlat.calls PyRc94.shape f t with | none => none | some ds => some (c :: ds)) = some cs := h'
      cases e2 : PyFlat.calls PyRc94.shape f t with
      | none => rw [e2] at h2; cases h2
      | some ds =>
        rw [e2] at h2
        obtain rfl : c :: ds = cs := Option.some.inj h2
        obtain ⟨k, k1, k2, k3⟩ := call_is e (ha _ (by rw [List.map_cons]; exact .head _))
        obtain ⟨ks, g1, g2, g3, g4⟩ := calls_are f t ds (does s k.call).1 e2 fun d hd => ha d (by rw [List.map_cons]; exact .tail _ hd)
        refine ⟨k :: ks, by rw [k1, g1]; rfl, fun d hd => ?_, by rw [List.length_cons, List.length_cons, g3], ?_⟩
        · rcases List.mem_cons.mp hd with rfl | hd
          · exact k2
          · exact g2 d hd
        · have es : Rc94Neutral.step s (PyRc94.whole c) = ((does s k.call).1, ansOf (does s k.call).2) := by
            unfold Rc94Neutral.step
            rw [k3]
            rfl
          show PyFlat.told ((Rc94Neutral.step s (PyRc94.whole c)).2 :: PyFlat.played Rc94Neutral.step (Rc94Neutral.step s (PyRc94.whole c)).1 (ds.map PyRc94.whole)) = _
          rw [es]
          show ((ansOf (does s k.call).2).length : Int) :: (ansOf (does s k.call).2 ++ PyFlat.told (PyFlat.played Rc94Neutral.step (does s k.call).1 (ds.map PyRc94.whole))) = _
          rw [g4]
          rfl
theorem asked_is {l : List Int} (h : PyRc94.answers_asked l = true) : ∃ ks : List Cl, l = flatAll ks ∧ (∀ k ∈ ks, k.good) ∧ ks.length ≤ 400 ∧ PyRc94.answers l = toldAll {} ks := by
  unfold PyRc94.answers_asked PyRc94.calls at h
  cases e : PyFlat.calls PyRc94.shape l.length l with
  | none => rw [e] at h; cases h
  | some cs =>
    rw [e] at h
    have h' : (PyFlat.atMost 400 (cs.map PyRc94.whole) && Rc94Neutral.asked (cs.map PyRc94.whole)) = true := h
    unfold Rc94Neutral.asked at h'
    rw [Bool.and_eq_true, Bool.and_eq_true, Bool.and_eq_true] at h'
    obtain ⟨ks, g1, g2, g3, g4⟩ := calls_are _ l cs {} e (List.all_eq_true.mp h'.2.1.1)
    refine ⟨ks, g1, g2, ?_, ?_⟩
    · have := of_decide_eq_true h'.1
      rw [List.length_map] at this
      omega
    · unfold PyRc94.answers PyRc94.calls
      rw [e]
      exact g4
end Ev
end
section
set_option linter.all false
namespace Ev
open Rc94
structure RowOk (r : Row) : Prop where
  pos : 1 ≤ r.length
  len : r.length ≤ 12
  num : ∀ x ∈ r, x ≤ 1000
structure Good (s : Abs) : Prop where
  four : s.rows.length = 4
  rows : ∀ r ∈ s.rows, RowOk r
theorem good0 : Good {} := by
  refine ⟨rfl, fun r hr => ?_⟩
  have e : r = [0] := List.eq_of_mem_replicate (show r ∈ List.replicate 4 [0] from hr)
  subst e
  exact ⟨by decide, by decide, by decide⟩
theorem below4 {i : Int} (h : below i ROWS = true) : 0 ≤ i ∧ i < 4 := by
  unfold below at h
  rw [Bool.and_eq_true] at h
  exact ⟨of_decide_eq_true h.1, of_decide_eq_true h.2⟩
theorem below4_iff {i : Int} {n : Nat} : below i n = true ↔ 0 ≤ i ∧ i < (n : Int) := by
  unfold below
  rw [Bool.and_eq_true, decide_eq_true_iff, decide_eq_true_iff]
theorem Good.at {s : Abs} (g : Good s) {i : Int} (h : 0 ≤ i ∧ i < 4) : s.rows[i.toNat]? = some (row s i) := by
  unfold row
  have hl : i.toNat < s.rows.length := by rw [g.four]; omega
  rw [List.getD_eq_getElem?_getD, List.getElem?_eq_getElem hl]
  rfl
theorem Good.ok {s : Abs} (g : Good s) {i : Int} (h : 0 ≤ i ∧ i < 4) : RowOk (row s i) := g.rows _ (List.mem_of_getElem? (g.at h))
theorem Good.set {s : Abs} (g : Good s) {i : Nat} {r : Row} (h : RowOk r) : Good { rows := s.rows.set i r } := by
  refine ⟨by show (s.rows.set i r).length = 4; rw [List.length_set]; exact g.four, fun q hq => ?_⟩
  rcases List.mem_or_eq_of_mem_set (show q ∈ s.rows.set i r from hq) with h1 | h1
  · exact g.rows q h1
  · subst h1; exact h
theorem at_le {r : Row} {b : Nat} (h : ∀ x ∈ r, x ≤ b) (i : Nat) : at_ r i ≤ b := by
  unfold at_
  rw [List.getD_eq_getElem?_getD]
  cases e : r[i]? with
  | none => exact Nat.zero_le _
  | some x => exact h x (List.mem_of_getElem? e)
theorem at_of {r : Row} {i : Nat} {x : Nat} (h : r[i]? = some x) : at_ r i = x := by
  unfold at_
  rw [List.getD_eq_getElem?_getD, h]
  rfl
theorem at_set {r : Row} {i j v : Nat} (hi : i < r.length) : at_ (r.set i v) j = if i = j then v else at_ r j := by
  unfold at_
  rw [List.getD_eq_getElem?_getD, List.getD_eq_getElem?_getD, List.getElem?_set]
  by_cases h : i = j
  · subst h
    rw [if_pos rfl, if_pos rfl, if_pos hi]
    rfl
  · rw [if_neg h, if_neg h]
theorem moved_len (l : Row) (p q a : Nat) : (moved l p q a).length = l.length := by
  unfold moved
  dsimp only
  rw [List.length_set, List.length_set]
theorem moved_num {l : Row} {p q a b : Nat} (h : ∀ x ∈ l, x ≤ b) (hq : at_ (l.set p (at_ l p - a)) q + a ≤ b) : ∀ x ∈ moved l p q a, x ≤ b := by
  intro x hx
  unfold moved at hx
  dsimp only at hx
  rcases List.mem_or_eq_of_mem_set hx with h1 | h1
  · rcases List.mem_or_eq_of_mem_set h1 with h2 | h2
    · exact h x h2
    · have := at_le h p
      omega
  · omega
theorem RowOk.sorted {r : Row} (h : RowOk r) : RowOk (Rc94.sorted r) := ⟨by rw [sorted_len]; exact h.pos, by rw [sorted_len]; exact h.len, fun x hx => h.num x (sorted_mem.mp hx)⟩
theorem RowOk.step {x y : Row} (hx : RowOk x) (hy : RowOk y) : RowOk (Rc94.step x y) := by
  unfold Rc94.step
  split
  · exact hx
  · rename_i j hj
    split
    · exact hx
    · rename_i k hk
      have h1 := List.find?_some hj
      have h2 := List.find?_some hk
      have m1 := List.mem_range.mp (List.mem_reverse.mp (List.mem_of_find?_eq_some hj))
      have m2 := List.mem_range.mp (List.mem_of_find?_eq_some hk)
      rw [Bool.and_eq_true, decide_eq_true_iff, decide_eq_true_iff] at h2
      refine ⟨by rw [moved_len]; exact hx.pos, by rw [moved_len]; exact hx.len, moved_num hx.num ?_⟩
      rw [at_set m1, if_neg (by omega)]
      have := at_le hy.num k
      omega
theorem head_step (l : Row) (k : Nat) : head l (k + 1) = head l k + at_ (Rc94.sorted l) k := by
  unfold head at_
  rw [List.take_add_one, List.sum_append, List.getD_eq_getElem?_getD]
  cases (Rc94.sorted l)[k]? <;> simp
theorem RowOk.met {x y : Row} (hx : RowOk x) (hy : RowOk y) : RowOk (Rc94.met x y) := by
  refine ⟨?_, ?_, fun v hv => ?_⟩
  · unfold Rc94.met; rw [List.length_map, List.length_range]; exact hx.pos
  · unfold Rc94.met; rw [List.length_map, List.length_range]; exact hx.len
  · unfold Rc94.met at hv
    obtain ⟨k, _, rfl⟩ := List.mem_map.mp hv
    have h1 := at_le hx.sorted.num k
    have h2 := at_le hy.sorted.num k
    rw [head_step x k, head_step y k]
    omega
theorem good_does {s : Abs} (g : Good s) (c : Cl) : Good (does s c.call).1 := by
  cases c with
  | c0 => exact good0
  | c1 i r =>
    show Good (ite _ _ _ : Abs × Ans).1
    split
    · exact g
    · rename_i h
      rw [Bool.not_eq_false, Bool.and_eq_true, Bool.and_eq_true, Bool.and_eq_true] at h
      have hb := h.2.1
      unfold between at hb
      rw [Bool.and_eq_true, decide_eq_true_iff, decide_eq_true_iff] at hb
      unfold LONG at hb
      exact g.set ⟨by omega, by omega, fun x hx => of_decide_eq_true (List.all_eq_true.mp h.2.2.2 x hx)⟩
  | c2 i m =>
    show Good (ite _ _ _ : Abs × Ans).1
    split <;> exact g
  | c3 i j =>
    show Good (ite _ _ _ : Abs × Ans).1
    split <;> exact g
  | c4 i p q a =>
    show Good (ite _ _ _ : Abs × Ans).1
    split
    · exact g
    · rename_i h
      rw [Bool.not_eq_false, Bool.and_eq_true, Bool.and_eq_true, Bool.and_eq_true, Bool.and_eq_true] at h
      split
      · exact g
      · rename_i h2
        have o := g.ok (below4 h.1)
        have hp := below4_iff.mp h.2.1
        refine g.set ⟨by rw [moved_len]; exact o.pos, by rw [moved_len]; exact o.len, moved_num o.num ?_⟩
        have hpq : p ≠ q := by simpa using h.2.2.2.1
        have hq := below4_iff.mp h.2.2.1
        rw [at_set (by omega), if_neg (by omega)]
        unfold HIGH at h2
        omega
  | c5 i j =>
    show Good (ite _ _ _ : Abs × Ans).1
    split
    · exact g
    · rename_i h
      rw [Bool.not_eq_false, Bool.and_eq_true] at h
      split
      · exact g
      · exact g.set ((g.ok (below4 h.1)).sorted.step (g.ok (below4 h.2)).sorted)
  | c6 i j k =>
    show Good (ite _ _ _ : Abs × Ans).1
    split
    · exact g
    · rename_i h
      rw [Bool.not_eq_false, Bool.and_eq_true, Bool.and_eq_true] at h
      split
      · exact g
      · exact g.set ((g.ok (below4 h.1)).met (g.ok (below4 h.2.1)))
  | c7 i j =>
    show Good (ite _ _ _ : Abs × Ans).1
    split <;> exact g
  | c8 i j m =>
    show Good (ite _ _ _ : Abs × Ans).1
    split
    · exact g
    · split <;> exact g
end Ev
end
section
set_option linter.all false
namespace Ev
open Rc94
theorem find_rev {n : Nat} {f : Nat → Bool} {j : Nat} (hj : j < n) (h : f j = true) (last : ∀ m, j < m → m < n → f m = false) : (List.range n).reverse.find? f = some j := by
  induction n with
  | zero => omega
  | succ n ih =>
    rw [List.range_succ, List.reverse_append]
    show (n :: (List.range n).reverse).find? f = some j
    by_cases e : j = n
    · subst e
      rw [List.find?_cons, h]
    · rw [List.find?_cons, last n (by omega) (by omega)]
      exact ih (by omega) fun m h1 h2 => last m h1 (by omega)
theorem find_none {n : Nat} {f : Nat → Bool} (h : ∀ m, m < n → f m = false) : (List.range n).reverse.find? f = none := by
  rw [List.find?_eq_none]
  intro x hx
  rw [h x (List.mem_range.mp (List.mem_reverse.mp hx))]
  decide
theorem find_first {n : Nat} {f : Nat → Bool} {k : Nat} (hk : k < n) (h : f k = true) (first : ∀ m, m < k → f m = false) : (List.range n).find? f = some k := by
  rw [List.find?_range_eq_some]
  exact ⟨h, List.mem_range.mpr hk, fun j hj => by rw [first j hj]; rfl⟩
theorem step_eq {x y : Row} {j k : Nat} (hjk : j < k) (hk : k < x.length) (h1 : at_ y j < at_ x j) (h2 : at_ x k < at_ y k) (first : ∀ m, j < m → m < k → ¬ at_ x m < at_ y m)
    (last : ∀ m, j < m → m < x.length → at_ y m < at_ x m → ∀ q, m < q → q < x.length → ¬ at_ x q < at_ y q) : Rc94.step x y = moved x j k (min (at_ x j - at_ y j) (at_ y k - at_ x k)) := by
  unfold Rc94.step
  rw [find_rev (j := j) (by omega)]
  · dsimp only
    rw [find_first (k := k) hk]
    · rw [Bool.and_eq_true, decide_eq_true_iff, decide_eq_true_iff]
      exact ⟨hjk, h2⟩
    · intro m hm
      by_cases e : j < m
      · rw [decide_eq_false (first m e hm)]
        cases decide (j < m) <;> rfl
      · rw [decide_eq_false e]
        rfl
  · rw [Bool.and_eq_true, decide_eq_true_iff, List.any_eq_true]
    refine ⟨h1, k, List.mem_range.mpr hk, ?_⟩
    rw [Bool.and_eq_true, decide_eq_true_iff, decide_eq_true_iff]
    exact ⟨hjk, h2⟩
  · intro m h3 h4
    by_cases e : at_ y m < at_ x m
    · rw [decide_eq_true e, Bool.true_and, List.any_eq_false]
      intro q hq z
      rw [Bool.and_eq_true, decide_eq_true_iff, decide_eq_true_iff] at z
      exact last m h3 h4 e q z.1 (List.mem_range.mp hq) z.2
    · rw [decide_eq_false e]
      rfl
theorem step_none {x y : Row} (h : ∀ j, j < x.length → at_ y j < at_ x j → ∀ k, j < k → k < x.length → ¬ at_ x k < at_ y k) : Rc94.step x y = x := by
  unfold Rc94.step
  rw [find_none]
  intro m hm
  by_cases e : at_ y m < at_ x m
  · rw [decide_eq_true e, Bool.true_and, List.any_eq_false]
    intro q hq z
    rw [Bool.and_eq_true, decide_eq_true_iff, decide_eq_true_iff] at z
    exact h m hm e q z.1 (List.mem_range.mp hq) z.2
  · rw [decide_eq_false e]
    rfl
def cnt (r c : Row) : Nat := (tables r c).length
theorem cnt_nil (c : Row) : cnt [] c = if c.all (fun x => x == 0) = true then 1 else 0 := by
  unfold cnt tables
  split <;> rfl
def fits (r : Nat) (c b : Row) : Bool := b.sum == r && (List.range c.length).all fun i => decide (at_ b i ≤ at_ c i)
theorem cnt_cons (r : Nat) (l c : Row) : cnt (r :: l) c = (((bits c.length).filter (fits r c)).map fun b => cnt l (List.zipWith (fun x y => x - y) c b)).sum := by
  unfold cnt
  show (List.flatMap _ _).length = _
  rw [List.length_flatMap]
  congr 1
  exact List.map_congr_left fun b _ => by rw [List.length_map]
end Ev
end
section
set_option linter.all false
namespace Ev
open Rc94
theorem rng_pw (n : Nat) : (List.range n).Pairwise (fun a b => a < b) := List.pairwise_lt_range
theorem last_of {n : Nat} {f : Nat → Bool} {l : List Nat} {j : Nat} (h : (List.range n).filter f = l ++ [j]) : j < n ∧ f j = true ∧ ∀ m, j < m → m < n → f m = false := by
  have hm : j ∈ (List.range n).filter f := by rw [h]; exact List.mem_append_right _ (.head _)
  obtain ⟨h1, h2⟩ := List.mem_filter.mp hm
  refine ⟨List.mem_range.mp h1, h2, fun m hj hn => ?_⟩
  cases e : f m with
  | false => rfl
  | true =>
    have hmm : m ∈ l ++ [j] := by rw [← h]; exact List.mem_filter.mpr ⟨List.mem_range.mpr hn, e⟩
    have pw : (l ++ [j]).Pairwise (fun a b => a < b) := by rw [← h]; exact (rng_pw n).filter f
    rcases List.mem_append.mp hmm with q | q
    · have := (List.pairwise_append.mp pw).2.2 m q j (.head _)
      omega
    · have := List.mem_singleton.mp q
      omega
theorem snoc_of {α : Type} : ∀ {l : List α}, l ≠ [] → ∃ l' a, l = l' ++ [a]
  | [], h => absurd rfl h
  | [a], _ => ⟨[], a, rfl⟩
  | a :: b :: t, _ => by
    obtain ⟨l', c, e⟩ := snoc_of (l := b :: t) (by simp)
    exact ⟨a :: l', c, by rw [e]; rfl⟩
theorem first_of_filter {n : Nat} {f g : Nat → Bool} {k : Nat} {t : List Nat} (h : ((List.range n).filter f).filter g = k :: t) : k < n ∧ f k = true ∧ g k = true ∧ ∀ m, m < k → f m = true → g m = false := by
  have hm : k ∈ ((List.range n).filter f).filter g := by rw [h]; exact .head _
  obtain ⟨h1, h2⟩ := List.mem_filter.mp hm
  obtain ⟨h3, h4⟩ := List.mem_filter.mp h1
  refine ⟨List.mem_range.mp h3, h4, h2, fun m hk hf => ?_⟩
  cases e : g m with
  | false => rfl
  | true =>
    have hmm : m ∈ k :: t := by
      rw [← h]
      exact List.mem_filter.mpr ⟨List.mem_filter.mpr ⟨List.mem_range.mpr (Nat.lt_trans hk (List.mem_range.mp h3)), hf⟩, e⟩
    have pw : (k :: t).Pairwise (fun a b => a < b) := by rw [← h]; exact ((rng_pw n).filter f).filter g
    rcases List.mem_cons.mp hmm with q | q
    · omega
    · have := (List.pairwise_cons.mp pw).1 m q
      omega
def lessAt (x y : Row) : Nat → Bool := fun p => decide (at_ x p < at_ y p)
def moreAt (x y : Row) : Nat → Bool := fun p => decide (at_ y p < at_ x p)
theorem heads_le {x y : Row} (sx : Rc94.sorted x = x) (sy : Rc94.sorted y = y) : ∀ k, (∀ p, p < k → at_ x p ≤ at_ y p) → head x k ≤ head y k
  | 0, _ => Nat.le_refl _
  | k + 1, h => by
    rw [head_step, head_step, sx, sy]
    have := heads_le sx sy k fun p hp => h p (by omega)
    have := h k (by omega)
    omega
structure StepAt (x y : Row) (j k : Nat) : Prop where
  lt : j < k
  len : k < x.length
  more : at_ y j < at_ x j
  less : at_ x k < at_ y k
  eq : Rc94.step x y = moved x j k (min (at_ x j - at_ y j) (at_ y k - at_ x k))
theorem step_same {x y : Row} (h : (List.range x.length).filter (lessAt x y) = []) : Rc94.step x y = x :=
  step_none fun j _ _ k _ hk hl => by
    have : k ∈ (List.range x.length).filter (lessAt x y) := List.mem_filter.mpr ⟨List.mem_range.mpr hk, decide_eq_true hl⟩
    rw [h] at this
    cases this
theorem step_more {x y : Row} (sx : Rc94.sorted x = x) (sy : Rc94.sorted y = y) (ho : over x y = true) {l : List Nat} {q : Nat} (h : (List.range x.length).filter (lessAt x y) = l ++ [q]) : (List.range q).filter (moreAt x y) ≠ [] := fun e => by
  obtain ⟨h1, h2, _⟩ := last_of h
  have h2 : at_ x q < at_ y q := of_decide_eq_true h2
  have hall : ∀ p, p < q → at_ x p ≤ at_ y p := fun p hp => by
    by_cases z : at_ y p < at_ x p
    · have : p ∈ (List.range q).filter (moreAt x y) := List.mem_filter.mpr ⟨List.mem_range.mpr hp, decide_eq_true z⟩
      rw [e] at this
      cases this
    · omega
  have h3 := heads_le sx sy q hall
  have h4 := (over_iff.mp ho).2.2 (q + 1) h1
  rw [head_step, head_step, sx, sy] at h4
  omega
theorem step_take {x y : Row} {l m : List Nat} {q j : Nat} (h : (List.range x.length).filter (lessAt x y) = l ++ [q]) (hm : (List.range q).filter (moreAt x y) = m ++ [j]) :
    ∃ k t, ((List.range x.length).filter (lessAt x y)).filter (fun p => decide (j < p)) = k :: t := by
  obtain ⟨h1, _, _⟩ := last_of hm
  have hq : q ∈ ((List.range x.length).filter (lessAt x y)).filter (fun p => decide (j < p)) := List.mem_filter.mpr ⟨by rw [h]; exact List.mem_append_right _ (.head _), decide_eq_true h1⟩
  cases e : ((List.range x.length).filter (lessAt x y)).filter (fun p => decide (j < p)) with
  | nil => rw [e] at hq; cases hq
  | cons k t => exact ⟨k, t, rfl⟩
theorem step_at {x y : Row} {l m t : List Nat} {q j k : Nat} (h : (List.range x.length).filter (lessAt x y) = l ++ [q]) (hm : (List.range q).filter (moreAt x y) = m ++ [j])
    (hk : ((List.range x.length).filter (lessAt x y)).filter (fun p => decide (j < p)) = k :: t) : StepAt x y j k := by
  obtain ⟨h1, h2, h3⟩ := last_of h
  obtain ⟨m1, m2, m3⟩ := last_of hm
  obtain ⟨k1, k2, k3, k4⟩ := first_of_filter hk
  have h2 : at_ x q < at_ y q := of_decide_eq_true h2
  have m2 : at_ y j < at_ x j := of_decide_eq_true m2
  have k2 : at_ x k < at_ y k := of_decide_eq_true k2
  have k3 : j < k := of_decide_eq_true k3
  refine ⟨k3, k1, m2, k2, step_eq k3 k1 m2 k2 (fun p hj hp hl => ?_) fun p hj hp hl r hr1 hr2 hr3 => ?_⟩
  · have := of_decide_eq_false (k4 p hp (decide_eq_true hl))
    omega
  · by_cases c : p < q
    · have := of_decide_eq_false (m3 p hj c)
      omega
    · by_cases d : p = q
      · subst d
        omega
      · have := of_decide_eq_false (h3 r (by omega) hr2)
        omega
end Ev
end
section
set_option linter.all false
namespace Ev
open Rc94
theorem sum_filter {α : Type} (p : α → Bool) (f : α → Nat) : ∀ l : List α, ((l.filter p).map f).sum = (l.map fun a => if p a = true then f a else 0).sum
  | [] => rfl
  | a :: l => by
    rw [List.filter_cons, List.map_cons, List.sum_cons, ← sum_filter p f l]
    by_cases h : p a = true
    · rw [if_pos h, if_pos h, List.map_cons, List.sum_cons]
    · rw [if_neg h, if_neg h, Nat.zero_add]
theorem sum_add {α : Type} (f g : α → Nat) : ∀ l : List α, (l.map fun a => f a + g a).sum = (l.map f).sum + (l.map g).sum
  | [] => rfl
  | a :: l => by
    simp only [List.map_cons, List.sum_cons]
    rw [sum_add f g l]
    omega
theorem sum_zero {α : Type} : ∀ l : List α, (l.map fun _ => 0).sum = 0
  | [] => rfl
  | _ :: l => by rw [List.map_cons, List.sum_cons, sum_zero l]
theorem sum_bits (n : Nat) (h : Row → Nat) : ((bits (n + 1)).map h).sum = ((bits n).map fun l => h (0 :: l) + h (1 :: l)).sum := by
  show (((bits n).flatMap fun l => [0 :: l, 1 :: l]).map h).sum = _
  induction bits n with
  | nil => rfl
  | cons b r ih =>
    rw [List.flatMap_cons, List.map_append, List.sum_append, ih, List.map_cons, List.sum_cons]
    simp
theorem bits_len : ∀ (n : Nat) {b : Row}, b ∈ bits n → b.length = n
  | 0, b, h => by
    have : b = [] := List.mem_singleton.mp h
    rw [this]; rfl
  | n + 1, b, h => by
    obtain ⟨l, h1, h2⟩ := List.mem_flatMap.mp (show b ∈ (bits n).flatMap fun l => [0 :: l, 1 :: l] from h)
    have := bits_len n h1
    simp only [List.mem_cons, List.not_mem_nil, or_false] at h2
    rcases h2 with rfl | rfl <;> simp [this]
def lw : Row → Nat → (Row → Nat) → Nat
  | [], r, G => if r = 0 then G [] else 0
  | x :: c, r, G => lw c r (fun d => G (x :: d)) + if 1 ≤ x ∧ 1 ≤ r then lw c (r - 1) (fun d => G ((x - 1) :: d)) else 0
def fitsB : Row → Row → Bool
  | [], _ => true
  | x :: c, b => decide (b.headD 0 ≤ x) && fitsB c b.tail
theorem fitsB_iff : ∀ (c b : Row), fitsB c b = (List.range c.length).all fun i => decide (at_ b i ≤ at_ c i)
  | [], _ => rfl
  | x :: c, b => by
    rw [List.length_cons, List.range_succ_eq_map, List.all_cons, List.all_map]
    show (decide (b.headD 0 ≤ x) && fitsB c b.tail) = _
    rw [fitsB_iff c b.tail]
    congr 1
    · cases b <;> rfl
    · congr 1
      funext i
      cases b with
      | nil => rfl
      | cons y b => rfl
theorem fits_eq (r : Nat) (c b : Row) : fits r c b = (b.sum == r && fitsB c b) := by
  unfold fits
  rw [fitsB_iff]
theorem lw_eq : ∀ (c : Row) (r : Nat) (G : Row → Nat), ((bits c.length).map fun b => if fits r c b = true then G (List.zipWith (fun x y => x - y) c b) else 0).sum = lw c r G
  | [], r, G => by
    show ([[]].map fun b => if fits r [] b = true then G (List.zipWith (fun x y => x - y) [] b) else 0).sum = if r = 0 then G [] else 0
    by_cases h : r = 0
    · subst h
      rfl
    · rw [if_neg h]
      have q : fits r [] [] = false := by
        cases e : fits r [] [] with
        | false => rfl
        | true =>
          rw [fits_eq, Bool.and_eq_true, beq_iff_eq] at e
          exact absurd e.1.symm h
      show (if fits r [] [] = true then _ else 0) + 0 = 0
      rw [q]
      rfl
  | x :: c, r, G => by
    rw [List.length_cons, sum_bits, sum_add]
    have e0 : ∀ b : Row, (if fits r (x :: c) (0 :: b) = true then G (List.zipWith (fun x y => x - y) (x :: c) (0 :: b)) else 0) = if fits r c b = true then G (x :: List.zipWith (fun x y => x - y) c b) else 0 := fun b => by
      have : fits r (x :: c) (0 :: b) = fits r c b := by
        rw [fits_eq, fits_eq, List.sum_cons, Nat.zero_add]
        show (b.sum == r && (decide (0 ≤ x) && fitsB c b)) = _
        rw [decide_eq_true (Nat.zero_le x), Bool.true_and]
      rw [this]
      rfl
    rw [show (fun b => if fits r (x :: c) (0 :: b) = true then G (List.zipWith (fun x y => x - y) (x :: c) (0 :: b)) else 0) = fun b => if fits r c b = true then G (x :: List.zipWith (fun x y => x - y) c b) else 0 from funext e0]
    rw [lw_eq c r fun d => G (x :: d)]
    show _ = lw c r (fun d => G (x :: d)) + if 1 ≤ x ∧ 1 ≤ r then lw c (r - 1) (fun d => G ((x - 1) :: d)) else 0
    congr 1
    by_cases h : 1 ≤ x ∧ 1 ≤ r
    · rw [if_pos h, ← lw_eq c (r - 1) fun d => G ((x - 1) :: d)]
      congr 1
      refine List.map_congr_left fun b _ => ?_
      have : fits r (x :: c) (1 :: b) = fits (r - 1) c b := by
        rw [fits_eq, fits_eq, List.sum_cons]
        show ((1 + b.sum == r) && (decide (1 ≤ x) && fitsB c b)) = _
        rw [decide_eq_true h.1, Bool.true_and]
        congr 1
        by_cases q : 1 + b.sum = r
        · rw [beq_iff_eq.mpr q, beq_iff_eq.mpr (by omega)]
        · rw [beq_eq_false_iff_ne.mpr q, beq_eq_false_iff_ne.mpr (by omega)]
      rw [this]
      rfl
    · rw [if_neg h]
      refine Eq.trans (congrArg List.sum (List.map_congr_left fun b _ => ?_)) (sum_zero (bits c.length))
      rw [if_neg]
      intro z
      rw [fits_eq, List.sum_cons, Bool.and_eq_true, beq_iff_eq] at z
      have z2 : (decide (1 ≤ x) && fitsB c b) = true := z.2
      rw [Bool.and_eq_true, decide_eq_true_iff] at z2
      exact h ⟨z2.1, by omega⟩
theorem cnt_lw (r : Nat) (l c : Row) : cnt (r :: l) c = lw c r (cnt l) := by
  rw [cnt_cons, sum_filter]
  exact lw_eq c r (cnt l)
def Sym (G : Row → Nat) : Prop := ∀ d e : Row, d.Perm e → G d = G e
theorem four (A B C D : Nat) (X Y R S : Prop) [Decidable X] [Decidable Y] [Decidable R] [Decidable S] :
    (A + if Y ∧ R then B else 0) + (if X ∧ R then (C + if Y ∧ S then D else 0) else 0) = (A + if X ∧ R then C else 0) + (if Y ∧ R then (B + if X ∧ S then D else 0) else 0) := by
  by_cases hx : X <;> by_cases hy : Y <;> by_cases hr : R <;> by_cases hs : S <;> simp [hx, hy, hr, hs] <;> omega
theorem lw_swap (x y : Nat) (c : Row) (r : Nat) (G : Row → Nat) (hG : Sym G) : lw (x :: y :: c) r G = lw (y :: x :: c) r G := by
  have sw : ∀ a b : Nat, (fun d => G (a :: b :: d)) = fun d => G (b :: a :: d) := fun a b => funext fun d => hG _ _ (.swap b a d)
  show (lw c r (fun d => G (x :: y :: d)) + if 1 ≤ y ∧ 1 ≤ r then lw c (r - 1) (fun d => G (x :: (y - 1) :: d)) else 0) + (if 1 ≤ x ∧ 1 ≤ r then (lw c (r - 1) (fun d => G ((x - 1) :: y :: d)) + if 1 ≤ y ∧ 1 ≤ r - 1 then lw c (r - 1 - 1) (fun d => G ((x - 1) :: (y - 1) :: d)) else 0) else 0)
    = (lw c r (fun d => G (y :: x :: d)) + if 1 ≤ x ∧ 1 ≤ r then lw c (r - 1) (fun d => G (y :: (x - 1) :: d)) else 0) + (if 1 ≤ y ∧ 1 ≤ r then (lw c (r - 1) (fun d => G ((y - 1) :: x :: d)) + if 1 ≤ x ∧ 1 ≤ r - 1 then lw c (r - 1 - 1) (fun d => G ((y - 1) :: (x - 1) :: d)) else 0) else 0)
  rw [sw y x, sw y (x - 1), sw (y - 1) x, sw (y - 1) (x - 1)]
  exact four _ _ _ _ (1 ≤ x) (1 ≤ y) (1 ≤ r) (1 ≤ r - 1)
theorem lw_perm {c d : Row} (h : c.Perm d) : ∀ (r : Nat) (G : Row → Nat), Sym G → lw c r G = lw d r G := by
  induction h with
  | nil => intro r G _; rfl
  | cons x _ ih =>
    rename_i l₁ l₂ _
    intro r G hG
    show lw l₁ r (fun d => G (x :: d)) + (if 1 ≤ x ∧ 1 ≤ r then lw l₁ (r - 1) (fun d => G ((x - 1) :: d)) else 0) = lw l₂ r (fun d => G (x :: d)) + (if 1 ≤ x ∧ 1 ≤ r then lw l₂ (r - 1) (fun d => G ((x - 1) :: d)) else 0)
    rw [ih r _ fun d e h => hG _ _ (h.cons x), ih (r - 1) _ fun d e h => hG _ _ (h.cons (x - 1))]
  | swap x y l => intro r G hG; exact lw_swap y x l r G hG
  | trans _ _ ih1 ih2 => intro r G hG; exact (ih1 r G hG).trans (ih2 r G hG)
theorem cnt_sym : ∀ l : Row, Sym (cnt l)
  | [] => fun d e h => by
    rw [cnt_nil, cnt_nil]
    have : d.all (fun x => x == 0) = e.all (fun x => x == 0) := by
      rw [Bool.eq_iff_iff, List.all_eq_true, List.all_eq_true]
      exact ⟨fun k x hx => k x (h.mem_iff.mpr hx), fun k x hx => k x (h.mem_iff.mp hx)⟩
    rw [this]
  | r :: l => fun d e h => by
    rw [cnt_lw, cnt_lw]
    exact lw_perm h r _ (cnt_sym l)
def asc (l : Row) : Row := (Rc94.sorted l).reverse
theorem asc_perm (l : Row) : (asc l).Perm l := (List.reverse_perm _).trans (sorted_perm l)
theorem asc_len (l : Row) : (asc l).length = l.length := (asc_perm l).length_eq
theorem asc_pw (l : Row) : (asc l).Pairwise (fun a b => a ≤ b) := List.pairwise_reverse.mpr (sorted_pw l)
theorem asc_of {ns : List Int} {l : Row} (hp : ns.Perm (zs l)) (hs : ns.Pairwise (fun a b => a ≤ b)) : ns = zs (asc l) := by
  refine pw_same (R := fun a b => a ≤ b) (fun a b h1 h2 => Int.le_antisymm h1 h2) (hp.trans ((asc_perm l).map _).symm) hs ?_
  exact List.pairwise_map.mpr ((asc_pw l).imp fun h => Int.ofNat_le.mpr h)
abbrev Ways := List (Row × Nat)
def getW (D : Ways) (k : Row) : Option Nat := (D.find? fun p => decide (p.1 = k)).map (·.2)
def addW (D : Ways) (k : Row) (v : Nat) : Ways := match getW D k with
  | some _ => D.map fun p => if p.1 = k then (p.1, p.2 + v) else p
  | none => D ++ [(k, v)]
def wsum (D : Ways) (g : Row → Nat) : Nat := (D.map fun p => p.2 * g p.1).sum
theorem getW_cons (p : Row × Nat) (D : Ways) (k : Row) : getW (p :: D) k = if p.1 = k then some p.2 else getW D k := by
  unfold getW
  rw [List.find?_cons]
  by_cases h : p.1 = k
  · rw [if_pos h, decide_eq_true h]
    rfl
  · rw [if_neg h, decide_eq_false h]
theorem getW_none {D : Ways} {k : Row} (h : getW D k = none) : k ∉ D.map (·.1) := fun z => by
  induction D with
  | nil => cases z
  | cons p D ih =>
    rw [getW_cons] at h
    by_cases e : p.1 = k
    · rw [if_pos e] at h; cases h
    · rw [if_neg e] at h
      rcases List.mem_cons.mp z with q | q
      · exact e q.symm
      · exact ih h q
theorem getW_some {D : Ways} {k : Row} {v : Nat} (h : getW D k = some v) : (k, v) ∈ D := by
  induction D with
  | nil => cases h
  | cons p D ih =>
    rw [getW_cons] at h
    by_cases e : p.1 = k
    · rw [if_pos e] at h
      have := Option.some.inj h
      subst e this
      exact .head _
    · rw [if_neg e] at h
      exact .tail _ (ih h)
theorem getW_of {D : Ways} (nd : (D.map (·.1)).Nodup) {k : Row} {v : Nat} (h : (k, v) ∈ D) : getW D k = some v := by
  induction D with
  | nil => cases h
  | cons p D ih =>
    rw [getW_cons]
    rcases List.mem_cons.mp h with q | q
    · subst q
      rw [if_pos rfl]
    · rw [List.map_cons, List.nodup_cons] at nd
      rw [if_neg fun e => nd.1 (by rw [e]; exact List.mem_map.mpr ⟨_, q, rfl⟩)]
      exact ih nd.2 q
theorem addW_keys (D : Ways) (k : Row) (v : Nat) : (addW D k v).map (·.1) = if (getW D k).isSome = true then D.map (·.1) else D.map (·.1) ++ [k] := by
  unfold addW
  cases e : getW D k with
  | none => simp
  | some u =>
    simp only [Option.isSome_some, if_true, List.map_map]
    refine List.map_congr_left fun p _ => ?_
    show (if p.1 = k then (p.1, p.2 + v) else p).1 = p.1
    split <;> rfl
theorem addW_nodup {D : Ways} (nd : (D.map (·.1)).Nodup) (k : Row) (v : Nat) : ((addW D k v).map (·.1)).Nodup := by
  rw [addW_keys]
  cases e : getW D k with
  | some u => simpa using nd
  | none =>
    simp only [Option.isSome_none, Bool.false_eq_true, if_false]
    refine List.nodup_append.mpr ⟨nd, List.nodup_cons.mpr ⟨by simp, List.nodup_nil⟩, fun a ha b hb => ?_⟩
    rw [List.mem_singleton.mp hb]
    intro z
    exact getW_none e (z ▸ ha)
theorem addW_mem {D : Ways} {k j : Row} {v : Nat} (h : j ∈ (addW D k v).map (·.1)) : j ∈ D.map (·.1) ∨ j = k := by
  rw [addW_keys] at h
  cases e : getW D k with
  | some u => rw [e] at h; exact .inl (by simpa using h)
  | none =>
    rw [e] at h
    simp only [Option.isSome_none, Bool.false_eq_true, if_false] at h
    rcases List.mem_append.mp h with q | q
    · exact .inl q
    · exact .inr (List.mem_singleton.mp q)
theorem wsum_map {k : Row} {v : Nat} {g : Row → Nat} : ∀ {D : Ways}, (D.map (·.1)).Nodup → k ∈ D.map (·.1) → wsum (D.map fun p => if p.1 = k then (p.1, p.2 + v) else p) g = wsum D g + v * g k
  | [], _, h => by cases h
  | p :: D, nd, h => by
    rw [List.map_cons, List.nodup_cons] at nd
    show (if p.1 = k then (p.1, p.2 + v) else p).2 * g (if p.1 = k then (p.1, p.2 + v) else p).1 + wsum (D.map fun p => if p.1 = k then (p.1, p.2 + v) else p) g = p.2 * g p.1 + wsum D g + v * g k
    by_cases e : p.1 = k
    · rw [if_pos e]
      have : (D.map fun p => if p.1 = k then (p.1, p.2 + v) else p) = D := by
        refine (List.map_congr_left fun q hq => ?_).trans (List.map_id D)
        rw [if_neg fun z => nd.1 (by rw [e, ← z]; exact List.mem_map.mpr ⟨q, hq, rfl⟩)]
        rfl
      rw [this]
      show (p.2 + v) * g p.1 + _ = _
      rw [e, Nat.add_mul]
      omega
    · rw [if_neg e, wsum_map nd.2 (by
        rcases List.mem_cons.mp h with q | q
        · exact absurd q.symm e
        · exact q)]
      omega
theorem addW_sum {D : Ways} (nd : (D.map (·.1)).Nodup) (k : Row) (v : Nat) (g : Row → Nat) : wsum (addW D k v) g = wsum D g + v * g k := by
  unfold addW
  cases e : getW D k with
  | some u => exact wsum_map nd (List.mem_map.mpr ⟨_, getW_some e, rfl⟩)
  | none =>
    show wsum (D ++ [(k, v)]) g = _
    unfold wsum
    rw [List.map_append, List.sum_append]
    simp
def lineW (w : Row) (v : Nat) (D : Ways) (b : Row) : Ways := if fitsB w b = true then addW D (asc (List.zipWith (fun x y => x - y) w b)) v else D
def behindW (ways : Ways) (lines : List Row) : Ways := ways.foldl (fun D p => lines.foldl (lineW p.1 p.2) D) []
structure WOk (n : Nat) (D : Ways) : Prop where
  nd : (D.map (·.1)).Nodup
  key : ∀ k ∈ D.map (·.1), k.length = n ∧ ∀ x ∈ k, x ≤ 6
theorem WOk.nil (n : Nat) : WOk n [] := ⟨List.nodup_nil, fun k h => by cases h⟩
theorem WOk.add {n : Nat} {D : Ways} (o : WOk n D) {k : Row} (h1 : k.length = n) (h2 : ∀ x ∈ k, x ≤ 6) (v : Nat) : WOk n (addW D k v) :=
  ⟨addW_nodup o.nd k v, fun j hj => by
    rcases addW_mem hj with q | q
    · exact o.key j q
    · rw [q]; exact ⟨h1, h2⟩⟩
theorem zip_le {w b : Row} (h : ∀ x ∈ w, x ≤ 6) : ∀ x ∈ List.zipWith (fun x y => x - y) w b, x ≤ 6 := by
  induction w generalizing b with
  | nil => intro x hx; cases b <;> cases hx
  | cons a w ih =>
    cases b with
    | nil => intro x hx; cases hx
    | cons c b =>
      intro x hx
      rw [List.zipWith_cons_cons] at hx
      rcases List.mem_cons.mp hx with rfl | hx
      · have := h a (.head _)
        omega
      · exact ih (fun y hy => h y (.tail _ hy)) x hx
theorem WOk.line {n : Nat} {D : Ways} (o : WOk n D) {w b : Row} (hw : w.length = n) (hw6 : ∀ x ∈ w, x ≤ 6) (hb : b.length = n) (v : Nat) : WOk n (lineW w v D b) := by
  unfold lineW
  split
  · refine o.add (by rw [asc_len, List.length_zipWith, hw, hb, Nat.min_self]) (fun x hx => zip_le hw6 x ((asc_perm _).mem_iff.mp hx)) v
  · exact o
theorem WOk.lines {n : Nat} {w : Row} {v : Nat} (hw : w.length = n) (hw6 : ∀ x ∈ w, x ≤ 6) : ∀ {lines : List Row} {D : Ways}, WOk n D → (∀ b ∈ lines, b.length = n) → WOk n (lines.foldl (lineW w v) D)
  | [], _, o, _ => o
  | b :: r, D, o, h => WOk.lines (lines := r) (D := lineW w v D b) hw hw6 (o.line hw hw6 (h b (.head _)) v) fun c hc => h c (.tail _ hc)
theorem lines_sum {n : Nat} {w : Row} {v : Nat} (hw : w.length = n) (hw6 : ∀ x ∈ w, x ≤ 6) {g : Row → Nat} (hg : Sym g) : ∀ {lines : List Row} {D : Ways}, WOk n D → (∀ b ∈ lines, b.length = n) →
    wsum (lines.foldl (lineW w v) D) g = wsum D g + v * (lines.map fun b => if fitsB w b = true then g (List.zipWith (fun x y => x - y) w b) else 0).sum
  | [], _, _, _ => by simp
  | b :: r, D, o, h => by
    rw [List.foldl_cons, lines_sum hw hw6 hg (o.line hw hw6 (h b (.head _)) v) fun c hc => h c (.tail _ hc), List.map_cons, List.sum_cons, Nat.mul_add]
    unfold lineW
    by_cases e : fitsB w b = true
    · rw [if_pos e, if_pos e, addW_sum o.nd, hg _ _ (asc_perm _)]
      omega
    · rw [if_neg e, if_neg e]
      omega
def withOnes (r n : Nat) : List Row := (bits n).filter fun b => b.sum == r
theorem withOnes_len {r n : Nat} : ∀ b ∈ withOnes r n, b.length = n := fun b hb => bits_len n (List.mem_filter.mp hb).1
theorem withOnes_sum {r : Nat} {l w : Row} : ((withOnes r w.length).map fun b => if fitsB w b = true then cnt l (List.zipWith (fun x y => x - y) w b) else 0).sum = cnt (r :: l) w := by
  rw [cnt_lw, ← lw_eq]
  unfold withOnes
  rw [sum_filter]
  congr 1
  refine List.map_congr_left fun b _ => ?_
  rw [fits_eq]
  by_cases h : (b.sum == r) = true
  · rw [if_pos h, h, Bool.true_and]
  · rw [if_neg h, Bool.eq_false_iff.mpr h]
    rfl
theorem behind_fold {n r : Nat} {l : Row} : ∀ {ways D : Ways}, WOk n D → (∀ k ∈ ways.map (·.1), k.length = n ∧ ∀ x ∈ k, x ≤ 6) →
    WOk n (ways.foldl (fun D p => (withOnes r n).foldl (lineW p.1 p.2) D) D) ∧ wsum (ways.foldl (fun D p => (withOnes r n).foldl (lineW p.1 p.2) D) D) (cnt l) = wsum D (cnt l) + wsum ways (cnt (r :: l))
  | [], D, o, _ => ⟨o, rfl⟩
  | p :: ways, D, o, h => by
    obtain ⟨hw, hw6⟩ := h p.1 (.head _)
    have o2 := WOk.lines (v := p.2) hw hw6 o (withOnes_len (r := r) (n := n))
    obtain ⟨a1, a2⟩ := behind_fold (r := r) (l := l) (ways := ways) o2 fun k hk => h k (.tail _ hk)
    refine ⟨a1, ?_⟩
    rw [List.foldl_cons, a2, lines_sum hw hw6 (cnt_sym l) o withOnes_len]
    have e := withOnes_sum (r := r) (l := l) (w := p.1)
    rw [hw] at e
    rw [e]
    show _ = wsum D (cnt l) + (p.2 * cnt (r :: l) p.1 + wsum ways (cnt (r :: l)))
    omega
theorem behind_ok {n r : Nat} {ways : Ways} (o : WOk n ways) : WOk n (behindW ways (withOnes r n)) := (behind_fold (l := []) (WOk.nil n) o.key).1
theorem behind_sum {n r : Nat} {l : Row} {ways : Ways} (o : WOk n ways) : wsum (behindW ways (withOnes r n)) (cnt l) = wsum ways (cnt (r :: l)) := by
  have e := (behind_fold (r := r) (l := l) (WOk.nil n) o.key).2
  unfold behindW
  rw [e]
  show 0 + _ = _
  omega
def ways0 (c : Row) : Ways := [(asc c, 1)]
theorem ways0_ok {c : Row} (h : ∀ x ∈ c, x ≤ 6) : WOk c.length (ways0 c) :=
  ⟨List.nodup_cons.mpr ⟨by simp, List.nodup_nil⟩, fun k hk => by
    rw [List.mem_singleton.mp (show k ∈ [asc c] from hk)]
    exact ⟨asc_len c, fun x hx => h x ((asc_perm c).mem_iff.mp hx)⟩⟩
theorem ways0_sum (l c : Row) : wsum (ways0 c) (cnt l) = cnt l c := by
  show 1 * cnt l (asc c) + 0 = _
  rw [cnt_sym l _ _ (asc_perm c)]
  omega
theorem zero_iff {k : Row} {n : Nat} (h : k.length = n) : k.all (fun x => x == 0) = true ↔ k = List.replicate n 0 := by
  rw [List.all_eq_true, List.eq_replicate_iff]
  exact ⟨fun z => ⟨h, fun x hx => by simpa using z x hx⟩, fun z x hx => by simpa using z.2 x hx⟩
theorem ways_end {n : Nat} : ∀ {D : Ways}, WOk n D → wsum D (cnt []) = (getW D (List.replicate n 0)).getD 0
  | [], _ => rfl
  | p :: D, o => by
    have o2 : WOk n D := ⟨(List.nodup_cons.mp o.nd).2, fun k hk => o.key k (.tail _ hk)⟩
    have hp := (o.key p.1 (.head _)).1
    show p.2 * cnt [] p.1 + wsum D (cnt []) = _
    rw [getW_cons, cnt_nil]
    by_cases e : p.1 = List.replicate n 0
    · rw [if_pos e, if_pos ((zero_iff hp).mpr e), ways_end o2]
      have : getW D (List.replicate n 0) = none := by
        cases q : getW D (List.replicate n 0) with
        | none => rfl
        | some v =>
          have nd : p.1 ∉ D.map (·.1) := (List.nodup_cons.mp o.nd).1
          rw [e] at nd
          exact absurd (List.mem_map.mpr ⟨_, getW_some q, rfl⟩) nd
      rw [this]
      show p.2 * 1 + 0 = p.2
      omega
    · rw [if_neg e, if_neg fun z => e ((zero_iff hp).mp z), ways_end o2]
      omega
theorem nodup_lt : ∀ (n : Nat) {l : List Nat}, l.Nodup → (∀ x ∈ l, x < n) → l.length ≤ n
  | 0, l, _, h => by
    cases l with
    | nil => exact Nat.le_refl _
    | cons a l => exact absurd (h a (.head _)) (by omega)
  | n + 1, l, nd, h => by
    have h1 := nodup_lt n (l := l.filter fun x => decide (x ≠ n)) (nd.filter _) fun x hx => by
      obtain ⟨a, b⟩ := List.mem_filter.mp hx
      have := h x a
      have := of_decide_eq_true b
      omega
    have h2 : ∀ {m : List Nat}, m.Nodup → m.length ≤ (m.filter fun x => decide (x ≠ n)).length + 1 := fun {m} nd => by
      induction m with
      | nil => exact Nat.zero_le _
      | cons a m ih =>
        rw [List.nodup_cons] at nd
        by_cases e : a = n
        · have : (m.filter fun x => decide (x ≠ n)) = m := List.filter_eq_self.mpr fun x hx => decide_eq_true fun z => nd.1 (by rw [e, ← z]; exact hx)
          rw [List.filter_cons, if_neg (by simp [e]), this, List.length_cons]
          exact Nat.le_refl _
        · rw [List.filter_cons, if_pos (by simp [e]), List.length_cons, List.length_cons]
          have := ih nd.2
          omega
    have := h2 nd
    omega
def code7 : Row → Nat
  | [] => 0
  | x :: k => x + 7 * code7 k
theorem code7_lt : ∀ {k : Row}, (∀ x ∈ k, x ≤ 6) → code7 k < 7 ^ k.length
  | [], _ => by decide
  | x :: k, h => by
    have h1 := code7_lt (k := k) fun y hy => h y (.tail _ hy)
    have h2 := h x (.head _)
    show x + 7 * code7 k < 7 ^ (k.length + 1)
    rw [Nat.pow_succ]
    omega
theorem code7_inj : ∀ {k j : Row}, k.length = j.length → (∀ x ∈ k, x ≤ 6) → (∀ x ∈ j, x ≤ 6) → code7 k = code7 j → k = j
  | [], [], _, _, _, _ => rfl
  | [], _ :: _, h, _, _, _ => by cases h
  | _ :: _, [], h, _, _, _ => by cases h
  | x :: k, y :: j, h, h1, h2, e => by
    have a := h1 x (.head _)
    have b := h2 y (.head _)
    have e : x + 7 * code7 k = y + 7 * code7 j := e
    have e1 : x = y := by omega
    rw [e1, code7_inj (Nat.succ.inj h) (fun z hz => h1 z (.tail _ hz)) (fun z hz => h2 z (.tail _ hz)) (by omega)]
theorem nodup_map {α β : Type} {f : α → β} : ∀ {l : List α}, l.Nodup → (∀ a ∈ l, ∀ b ∈ l, f a = f b → a = b) → (l.map f).Nodup
  | [], _, _ => List.nodup_nil
  | a :: l, nd, h => by
    rw [List.nodup_cons] at nd
    rw [List.map_cons, List.nodup_cons]
    refine ⟨fun z => ?_, nodup_map nd.2 fun b hb c hc => h b (.tail _ hb) c (.tail _ hc)⟩
    obtain ⟨b, hb, e⟩ := List.mem_map.mp z
    exact nd.1 (h a (.head _) b (.tail _ hb) e.symm ▸ hb)
theorem WOk.few {n : Nat} {D : Ways} (o : WOk n D) (hn : n ≤ 6) : D.length ≤ 117649 := by
  have h := nodup_lt (7 ^ n) (l := (D.map (·.1)).map code7) (nodup_map o.nd fun a ha b hb e => code7_inj ((o.key a ha).1.trans (o.key b hb).1.symm) (o.key a ha).2 (o.key b hb).2 e) fun x hx => by
    obtain ⟨k, hk, rfl⟩ := List.mem_map.mp hx
    have := code7_lt (o.key k hk).2
    rw [(o.key k hk).1] at this
    exact this
  rw [List.length_map, List.length_map] at h
  have : 7 ^ n ≤ 7 ^ 6 := Nat.pow_le_pow_right (by decide) hn
  have e : 7 ^ 6 = 117649 := by decide
  omega
end Ev
end
section
set_option linter.all false
namespace Ev
open Rc94
def entr (n b : Nat) : Row := (List.range n).map fun c => b / 2 ^ c % 2
theorem entr_succ (n b : Nat) : entr (n + 1) b = b % 2 :: entr n (b / 2) := by
  unfold entr
  rw [List.range_succ_eq_map, List.map_cons, List.map_map]
  congr 1
  · simp
  · refine List.map_congr_left fun c _ => ?_
    show b / 2 ^ (c + 1) % 2 = b / 2 / 2 ^ c % 2
    rw [Nat.pow_succ, Nat.mul_comm, Nat.div_div_eq_div_mul]
theorem range_two : ∀ m : Nat, List.range (2 * m) = (List.range m).flatMap fun k => [2 * k, 2 * k + 1]
  | 0 => rfl
  | m + 1 => by
    rw [show 2 * (m + 1) = 2 * m + 1 + 1 by omega, List.range_succ, List.range_succ, List.range_succ, List.flatMap_append, range_two m]
    simp
theorem lines_bits : ∀ n : Nat, (List.range (2 ^ n)).map (entr n) = bits n
  | 0 => rfl
  | n + 1 => by
    rw [Nat.pow_succ, Nat.mul_comm, range_two]
    show _ = (bits n).flatMap fun l => [0 :: l, 1 :: l]
    rw [← lines_bits n, List.flatMap_map, List.map_flatMap]
    congr 1
    funext k
    show [entr (n + 1) (2 * k), entr (n + 1) (2 * k + 1)] = _
    rw [entr_succ, entr_succ]
    have e1 : 2 * k % 2 = 0 := by omega
    have e2 : 2 * k / 2 = k := by omega
    have e3 : (2 * k + 1) % 2 = 1 := by omega
    have e4 : (2 * k + 1) / 2 = k := by omega
    rw [e1, e2, e3, e4]
def bef (c : Row) (j i : Nat) : Bool := decide (at_ c i < at_ c j) || (at_ c j == at_ c i && decide (j < i))
theorem bef_iff {c : Row} {j i : Nat} : bef c j i = true ↔ at_ c i < at_ c j ∨ (at_ c j = at_ c i ∧ j < i) := by
  unfold bef
  rw [Bool.or_eq_true, Bool.and_eq_true, decide_eq_true_iff, decide_eq_true_iff, beq_iff_eq]
theorem tie_pw {c : Row} : ∀ {out : List Nat}, (∀ z, (out.filter fun i => at_ c i == z).Pairwise (fun a b => a < b)) → out.Pairwise (fun a b => at_ c a = at_ c b → a < b)
  | [], _ => .nil
  | a :: out, h => by
    refine List.pairwise_cons.mpr ⟨fun b hb e => ?_, tie_pw fun z => ?_⟩
    · have p := h (at_ c a)
      rw [List.filter_cons, if_pos (by simp)] at p
      exact (List.pairwise_cons.mp p).1 b (List.mem_filter.mpr ⟨hb, by simp [e]⟩)
    · have p := h z
      rw [List.filter_cons] at p
      split at p
      · exact (List.pairwise_cons.mp p).2
      · exact p
theorem bef_pw {c : Row} {out : List Nat} {n : Nat} (h1 : out.Pairwise (fun a b => at_ c b ≤ at_ c a)) (h2 : ∀ z, (out.filter fun i => at_ c i == z) = (List.range n).filter fun i => at_ c i == z) : out.Pairwise (fun a b => bef c a b = true) := by
  have h3 := tie_pw (c := c) (out := out) fun z => by rw [h2]; exact (rng_pw n).filter _
  refine (h1.and h3).imp fun {a b} h => bef_iff.mpr ?_
  by_cases e : at_ c a = at_ c b
  · exact .inr ⟨e, h.2 e⟩
  · exact .inl (by have := h.1; omega)
theorem bef_rank {c : Row} {u v : List Nat} {i : Nat} (pw : (u ++ i :: v).Pairwise (fun a b => bef c a b = true)) : ((u ++ i :: v).filter fun j => bef c j i) = u := by
  obtain ⟨_, p2, p3⟩ := List.pairwise_append.mp pw
  rw [List.filter_append, List.filter_cons, if_neg (by intro z; rcases bef_iff.mp z with q | q <;> omega)]
  rw [List.filter_eq_self.mpr fun a ha => p3 a ha i (.head _), List.filter_eq_nil_iff.mpr fun a ha z => ?_, List.append_nil]
  have q := (List.pairwise_cons.mp p2).1 a ha
  rcases bef_iff.mp z with q1 | q1 <;> rcases bef_iff.mp q with q2 | q2 <;> omega
theorem take_iff {c : Row} {out : List Nat} {n r : Nat} (hp : out.Perm (List.range n)) (pw : out.Pairwise (fun a b => bef c a b = true)) {i : Nat} (hi : i < n) :
    i ∈ out.take r ↔ ((List.range n).filter fun j => bef c j i).length < r := by
  obtain ⟨u, v, e⟩ := List.append_of_mem (hp.mem_iff.mpr (List.mem_range.mpr hi))
  have hl : ((List.range n).filter fun j => bef c j i).length = u.length := by
    rw [← (hp.filter _).length_eq]
    subst e
    rw [bef_rank pw]
  rw [hl]
  have nd : (u ++ i :: v).Nodup := by rw [← e]; exact hp.nodup_iff.mpr List.nodup_range
  subst e
  constructor
  · intro h
    by_cases q : u.length < r
    · exact q
    · rw [List.take_append_of_le_length (by omega)] at h
      exact absurd rfl ((List.nodup_append.mp nd).2.2 i (List.mem_of_mem_take h) i (.head _))
  · intro h
    rw [List.take_append]
    refine List.mem_append_right _ ?_
    obtain ⟨k, hk⟩ : ∃ k, r - u.length = k + 1 := ⟨r - u.length - 1, by omega⟩
    rw [hk, List.take_succ_cons]
    exact .head _
theorem wants_eq {c : Row} {out : List Nat} {r : Nat} (hp : out.Perm (List.range c.length)) (pw : out.Pairwise (fun a b => bef c a b = true)) :
    ((List.range c.length).map fun i => if i ∈ out.take r then 1 else 0) = Rc94.wants c r := by
  unfold Rc94.wants
  refine List.map_congr_left fun i hi => ?_
  have h := take_iff (r := r) hp pw (List.mem_range.mp hi)
  by_cases q : i ∈ out.take r
  · rw [if_pos q]
    exact (if_pos (h.mp q)).symm
  · rw [if_neg q]
    exact (if_neg fun z => q (h.mpr z)).symm
theorem wants_len (c : Row) (r : Nat) : (Rc94.wants c r).length = c.length := by unfold Rc94.wants; rw [List.length_map, List.length_range]
theorem wants_le1 (c : Row) (r : Nat) : ∀ x ∈ Rc94.wants c r, x ≤ 1 := fun x hx => by
  unfold Rc94.wants at hx
  obtain ⟨i, _, rfl⟩ := List.mem_map.mp hx
  split <;> omega
abbrev subR (c b : Row) : Row := List.zipWith (fun x y => x - y) c b
def leftC : Row → Row → Row
  | [], c => c
  | r :: l, c => leftC l (subR c (Rc94.wants c r))
theorem subR_len {c b : Row} (h : b.length = c.length) : (subR c b).length = c.length := by
  show (List.zipWith _ c b).length = _
  rw [List.length_zipWith, h, Nat.min_self]
theorem leftC_len : ∀ (l c : Row), (leftC l c).length = c.length
  | [], _ => rfl
  | r :: l, c => by
    show (leftC l (subR c (Rc94.wants c r))).length = _
    rw [leftC_len l, subR_len (wants_len c r)]
theorem leftC_snoc (r : Nat) : ∀ (l c : Row), leftC (l ++ [r]) c = subR (leftC l c) (Rc94.wants (leftC l c) r)
  | [], _ => rfl
  | q :: l, c => leftC_snoc r l (subR c (Rc94.wants c q))
theorem made_snoc (r : Nat) : ∀ (l c : Row), Rc94.made (l ++ [r]) c = Rc94.made l c ++ [Rc94.wants (leftC l c) r]
  | [], _ => rfl
  | q :: l, c => by
    show Rc94.wants c q :: Rc94.made (l ++ [r]) (subR c (Rc94.wants c q)) = Rc94.wants c q :: (Rc94.made l (subR c (Rc94.wants c q)) ++ _)
    rw [made_snoc r l]
    rfl
theorem made_len : ∀ (l c : Row), (Rc94.made l c).length = l.length
  | [], _ => rfl
  | r :: l, c => by
    show (Rc94.made l _).length + 1 = _
    rw [made_len l]
    rfl
theorem made_row : ∀ (l c : Row), ∀ e ∈ Rc94.made l c, e.length = c.length ∧ ∀ x ∈ e, x ≤ 1
  | [], _, e, h => by cases h
  | r :: l, c, e, h => by
    rcases List.mem_cons.mp (show e ∈ Rc94.wants c r :: Rc94.made l (subR c (Rc94.wants c r)) from h) with rfl | h
    · exact ⟨wants_len c r, wants_le1 c r⟩
    · have := made_row l _ e h
      rw [subR_len (wants_len c r)] at this
      exact this
theorem met_at {x y : Row} {k : Nat} (h : k < x.length) : (Rc94.met x y)[k]? = some (min (head x (k + 1)) (head y (k + 1)) - min (head x k) (head y k)) := by
  unfold Rc94.met
  rw [List.getElem?_map, List.getElem?_range h]
  rfl
theorem met_len (x y : Row) : (Rc94.met x y).length = x.length := by
  unfold Rc94.met
  rw [List.length_map, List.length_range]
theorem met_take {x y : Row} {k : Nat} (h : k < x.length) : (Rc94.met x y).take (k + 1) = (Rc94.met x y).take k ++ [min (head x (k + 1)) (head y (k + 1)) - min (head x k) (head y k)] := by
  rw [List.take_add_one, met_at h]
  rfl
end Ev
end
section
set_option Elab.async false
set_option linter.all false
set_option autoImplicit false
set_option maxRecDepth 100000
set_option maxHeartbeats 4000000
namespace Ev
open PySem PySem.Spec PyProof.Rows L2
def top (i : Nat) : Stmt := PySem.Challenge.pw_evenrowsdesk_s01_answers.main.body.getD i (.Pass ⟨0, 0, 0, 0⟩)
abbrev s_greatest_first : Stmt := top 18
abbrev s_are_comparable : Stmt := top 19
abbrev s_is_over : Stmt := top 20
abbrev s_is_row_number : Stmt := top 21
abbrev s_are_row_numbers : Stmt := top 22
abbrev s_is_place : Stmt := top 23
abbrev s_is_row : Stmt := top 24
abbrev s_may_take : Stmt := top 25
abbrev s_with_moved : Stmt := top 26
abbrev s_step_towards : Stmt := top 27
abbrev s_where_they_meet : Stmt := top 28
abbrev s_is_countable : Stmt := top 29
abbrev s_entries_of : Stmt := top 30
abbrev s_lines_with : Stmt := top 31
abbrev s_ways_behind : Stmt := top 32
abbrev s_count_tables : Stmt := top 33
abbrev s_neediest : Stmt := top 34
abbrev s_make_table : Stmt := top 35
abbrev s_column_sum : Stmt := top 36
abbrev s_has_sums : Stmt := top 37
abbrev s_as_number : Stmt := top 38
abbrev s_first_of : Stmt := top 39
abbrev s_new_rows : Stmt := top 40
abbrev s_end_of_call : Stmt := top 42
abbrev s_answer_call : Stmt := top 43
abbrev s_answers : Stmt := top 44
abbrev s_init : Stmt := inClass (top 41) 0
abbrev s_begin : Stmt := inClass (top 41) 1
abbrev s_put : Stmt := inClass (top 41) 2
abbrev s_tell_sorted : Stmt := inClass (top 41) 3
abbrev s_compare : Stmt := inClass (top 41) 4
abbrev s_move : Stmt := inClass (top 41) 5
abbrev s_take_step : Stmt := inClass (top 41) 6
abbrev s_meet : Stmt := inClass (top 41) 7
abbrev s_tell_count : Stmt := inClass (top 41) 8
abbrev s_tell_made : Stmt := inClass (top 41) 9
structure Df where
  a : Addr
  d : FuncData
structure Fn (K : PySem.W.Frag) (mg : Str → Option Value) (x : Str) (st : Stmt) (ps : List Str) (f : Df) : Prop where
  F : Fun K x x st f.a f.d
  m : mg x = some (.ref f.a)
  k : PySem.W.keepIn K (.ref f.a) = true
  b : Binds K f.d ps []
structure Mt (K : PySem.W.Frag) (C : Addr) (x q : Str) (st : Stmt) (ps : List Str) (f : Df) : Prop where
  F : Fun K x q st f.a f.d
  m : Meth K C x f.a
  b : Binds K f.d ps []
structure Ads where
  C : Addr
  lens : Addr
  cc : Addr
  tb : Addr
  greatest_first : Df
  are_comparable : Df
  is_over : Df
  is_row_number : Df
  are_row_numbers : Df
  is_place : Df
  is_row : Df
  may_take : Df
  with_moved : Df
  step_towards : Df
  where_they_meet : Df
  is_countable : Df
  entries_of : Df
  lines_with : Df
  ways_behind : Df
  count_tables : Df
  neediest : Df
  make_table : Df
  column_sum : Df
  has_sums : Df
  as_number : Df
  first_of : Df
  new_rows : Df
  end_of_call : Df
  answer_call : Df
  init : Df
  begin : Df
  put : Df
  tell_sorted : Df
  compare : Df
  move : Df
  take_step : Df
  meet : Df
  tell_count : Df
  tell_made : Df
def lensOf (k : Int) : Option Int := if k = 0 then some 1 else if k = 1 then some 3 else if k = 2 then some 3 else if k = 3 then some 3 else if k = 4 then some 5 else if k = 5 then some 3 else if k = 6 then some 4 else if k = 7 then some 3 else if k = 8 then some 4 else none
def lamPos : Pos := ⟨87, 41, 87, 60⟩
def tpN : Pos × Str := (lamPos, ("neediest" : Str) ++ ".<locals>." ++ "<lambda>")
structure Txt (K : PySem.W.Frag) (mg : Str → Option Value) (a : Ads) : Prop where
  cl : Cls K a.C
  nR : NoAttr K a.C "rows"
  mgC : mg "FourRows" = some (.ref a.C)
  mkC : Mk K a.C a.init.a
  gROWS : ∃ t, mg "ROWS" = some (.int 4 t)
  gLONGEST : ∃ t, mg "LONGEST" = some (.int 12 t)
  gGREATEST : ∃ t, mg "GREATEST" = some (.int 1000 t)
  gLONGEST_COUNTED : ∃ t, mg "LONGEST_COUNTED" = some (.int 6 t)
  gGREATEST_COUNTED : ∃ t, mg "GREATEST_COUNTED" = some (.int 6 t)
  gBEGIN : ∃ t, mg "BEGIN" = some (.int 0 t)
  gROW : ∃ t, mg "ROW" = some (.int 1 t)
  gSORTED : ∃ t, mg "SORTED" = some (.int 2 t)
  gOVER : ∃ t, mg "OVER" = some (.int 3 t)
  gMOVE : ∃ t, mg "MOVE" = some (.int 4 t)
  gSTEP : ∃ t, mg "STEP" = some (.int 5 t)
  gMEET : ∃ t, mg "MEET" = some (.int 6 t)
  gCOUNT : ∃ t, mg "COUNT" = some (.int 7 t)
  gOUTSIDE : ∃ t, mg "OUTSIDE" = some (.int (-1) t)
  gTOO_MUCH : ∃ t, mg "TOO_MUCH" = some (.int (-2) t)
  gNO_MATCH : ∃ t, mg "NO_MATCH" = some (.int (-4) t)
  rLENGTHS : mg "LENGTHS" = some (.ref a.lens)
  kLENGTHS : KD K a.lens lensOf
  len : mg "len" = none
  sum : mg "sum" = none
  max : mg "max" = none
  min : mg "min" = none
  sorted : mg "sorted" = none
  list : mg "list" = none
  range : mg "range" = none
  zip : mg "zip" = none
  tuple : mg "tuple" = none
  enumerate : mg "enumerate" = none
  greatest_first : Fn K mg "greatest_first" s_greatest_first ["row"] a.greatest_first
  are_comparable : Fn K mg "are_comparable" s_are_comparable ["first", "second"] a.are_comparable
  is_over : Fn K mg "is_over" s_is_over ["first", "second"] a.is_over
  is_row_number : Fn K mg "is_row_number" s_is_row_number ["i"] a.is_row_number
  are_row_numbers : Fn K mg "are_row_numbers" s_are_row_numbers ["i", "j"] a.are_row_numbers
  is_place : Fn K mg "is_place" s_is_place ["row", "p"] a.is_place
  is_row : Fn K mg "is_row" s_is_row ["numbers"] a.is_row
  may_take : Fn K mg "may_take" s_may_take ["row", "p", "q", "a"] a.may_take
  with_moved : Fn K mg "with_moved" s_with_moved ["row", "p", "q", "a"] a.with_moved
  step_towards : Fn K mg "step_towards" s_step_towards ["x", "y"] a.step_towards
  where_they_meet : Fn K mg "where_they_meet" s_where_they_meet ["first", "second"] a.where_they_meet
  is_countable : Fn K mg "is_countable" s_is_countable ["row"] a.is_countable
  entries_of : Fn K mg "entries_of" s_entries_of ["bits", "columns"] a.entries_of
  lines_with : Fn K mg "lines_with" s_lines_with ["ones", "lines"] a.lines_with
  ways_behind : Fn K mg "ways_behind" s_ways_behind ["ways", "lines"] a.ways_behind
  count_tables : Fn K mg "count_tables" s_count_tables ["line_sums", "column_sums"] a.count_tables
  neediest : Fn K mg "neediest" s_neediest ["wants", "ones"] a.neediest
  make_table : Fn K mg "make_table" s_make_table ["line_sums", "column_sums"] a.make_table
  column_sum : Fn K mg "column_sum" s_column_sum ["table", "c"] a.column_sum
  has_sums : Fn K mg "has_sums" s_has_sums ["table", "line_sums", "column_sums"] a.has_sums
  as_number : Fn K mg "as_number" s_as_number ["entries"] a.as_number
  first_of : Fn K mg "first_of" s_first_of ["told", "most"] a.first_of
  new_rows : Fn K mg "new_rows" s_new_rows [] a.new_rows
  end_of_call : Fn K mg "end_of_call" s_end_of_call ["calls", "start"] a.end_of_call
  answer_call : Fn K mg "answer_call" s_answer_call ["held", "call"] a.answer_call
  init : Mt K a.C "__init__" "FourRows.__init__" s_init ["self"] a.init
  begin : Mt K a.C "begin" "FourRows.begin" s_begin ["self"] a.begin
  put : Mt K a.C "put" "FourRows.put" s_put ["self", "i", "numbers"] a.put
  tell_sorted : Mt K a.C "tell_sorted" "FourRows.tell_sorted" s_tell_sorted ["self", "i", "most"] a.tell_sorted
  compare : Mt K a.C "compare" "FourRows.compare" s_compare ["self", "i", "j"] a.compare
  move : Mt K a.C "move" "FourRows.move" s_move ["self", "i", "p", "q", "a"] a.move
  take_step : Mt K a.C "take_step" "FourRows.take_step" s_take_step ["self", "i", "j"] a.take_step
  meet : Mt K a.C "meet" "FourRows.meet" s_meet ["self", "i", "j", "k"] a.meet
  tell_count : Mt K a.C "tell_count" "FourRows.tell_count" s_tell_count ["self", "i", "j"] a.tell_count
  tell_made : Mt K a.C "tell_made" "FourRows.tell_made" s_tell_made ["self", "i", "j", "most"] a.tell_made
  code : a.neediest.d.code = .ref a.cc
end Ev
end
section
set_option Elab.async false
set_option linter.all false
set_option autoImplicit false
set_option maxRecDepth 100000
set_option maxHeartbeats 4000000
namespace Ev
open PySem PySem.Spec PyProof.Rows L2
abbrev iv (r : List Nat) : List V := (zs r).map V.int
theorem iv_len (r : List Nat) : (iv r).length = r.length := by rw [List.length_map, zs_len]
theorem iv_at {r : List Nat} {i n : Nat} (h : r[i]? = some n) : (iv r)[i]? = some (V.int (n : Int)) := by
  rw [List.getElem?_map, List.getElem?_map, h]
  rfl
theorem iv_of {r : List Nat} {i : Nat} {v : V} (h : (iv r)[i]? = some v) : ∃ n : Nat, r[i]? = some n ∧ v = V.int (n : Int) := by
  rw [List.getElem?_map] at h
  cases e : (zs r)[i]? with
  | none => rw [e] at h; cases h
  | some z =>
    rw [e] at h
    obtain ⟨n, h1, h2⟩ := zs_at e
    exact ⟨n, h1, by rw [← h2]; exact (Option.some.inj h).symm⟩
theorem dec_vint (i j : Int) : decide (V.int i = V.int j) = decide (i = j) := by
  by_cases h : i = j
  · subst h; simp
  · have h2 : ¬ V.int i = V.int j := fun e => h (V.int.inj e)
    rw [decide_eq_false h, decide_eq_false h2]
theorem same_new {H : Hp} {q : Addr} {o : HO} (h : H q = none) : Same H (upd H q o) := fun b u e => by
  rw [upd_ne (ne_of_none e h)]
  exact e
theorem to_bl {Q : VK} {H : Hp} {b c : Bool} (e : c = b) (k : Q (.bl b) H) : Q (.bl c) H := e ▸ k
theorem to_int {Q : VK} {H : Hp} {i j : Int} (e : i = j) (k : Q (.int j) H) : Q (.int i) H := e ▸ k
theorem room_12 (m : Int) : Rc94.room_ m 12 = if 1 ≤ m ∧ m ≤ 12 then m.toNat else 0 := rfl
def sp_greatest_first (K : PySem.W.Frag) : Sp := fun vs H Q _ => ∃ (a : Addr) (r : List Nat), vs = [.ref a] ∧ SqL K H a (iv r) ∧ r.length < 64 ∧ ∀ q, H q = none → Q (.ref q) (upd H q (.lst (iv (Rc94.sorted r))))
def sp_is_over (K : PySem.W.Frag) : Sp := fun vs H Q _ => ∃ (a b : Addr) (x y : List Nat), vs = [.ref a, .ref b] ∧ SqL K H a (iv x) ∧ SqL K H b (iv y) ∧ x.length < 64 ∧ y.length < 64 ∧ ∀ H', Same H H' → Q (.bl (Rc94.over x y)) H'
def sp_is_row_number : Sp := fun vs H Q _ => ∃ i : Int, vs = [.int i] ∧ Q (.bl (Rc94.below i 4)) H
def sp_is_place (K : PySem.W.Frag) : Sp := fun vs H Q _ => ∃ (a : Addr) (r : List Nat) (p : Int), vs = [.ref a, .int p] ∧ SqL K H a (iv r) ∧ Q (.bl (Rc94.below p r.length)) H
def sp_is_row (K : PySem.W.Frag) : Sp := fun vs H Q _ => ∃ (a : Addr) (r : List Nat), vs = [.ref a] ∧ SqL K H a (iv r) ∧ Q (.bl (decide (1 ≤ r.length ∧ r.length ≤ 12 ∧ ∀ x ∈ r, x ≤ 1000))) H
def sp_may_take (K : PySem.W.Frag) : Sp := fun vs H Q _ => ∃ (b : Addr) (r : List Nat) (p q a : Int), vs = [.ref b, .int p, .int q, .int a] ∧ SqL K H b (iv r) ∧
  Q (.bl (Rc94.below p r.length && (Rc94.below q r.length && (p != q && Rc94.between a 0 (Rc94.at_ r p.toNat))))) H
def sp_first_of (K : PySem.W.Frag) : Sp := fun vs H Q _ => ∃ (a : Addr) (xs : List V) (m : Int), vs = [.ref a, .int m] ∧ SqL K H a xs ∧ ∀ q, H q = none → Q (.ref q) (upd H q (.lst (xs.take (Rc94.room_ m 12))))
theorem dp_ints {K : PySem.W.Frag} {H : Hp} : ∀ ns : List Int, DpAll K H (ns.map V.int) (ns.map PyData.int)
  | [] => .nil
  | n :: r => .cons (.int n) (dp_ints r)
theorem eqv_ints : ∀ ns ms : List Int, PyData.eqvAll (ns.map PyData.int) (ms.map PyData.int) = decide (ns = ms)
  | [], [] => rfl
  | [], _ :: _ => rfl
  | _ :: _, [] => rfl
  | n :: ns, m :: ms => by
    show ((n == m) && PyData.eqvAll (ns.map PyData.int) (ms.map PyData.int)) = _
    rw [eqv_ints ns ms]
    by_cases h : n = m
    · subst h
      by_cases q : ns = ms
      · subst q; simp
      · simp [q]
    · simp [h]
theorem lay_ints : ∀ ns : List Int, PyData.canLayAll0 (ns.map PyData.int) = true
  | [] => rfl
  | n :: r => by
    show (true && PyData.canLayAll0 (r.map PyData.int)) = true
    rw [lay_ints r] <;> rfl
theorem deep_ints : ∀ ns : List Int, PyData.depthAll (ns.map PyData.int) = 0
  | [] => rfl
  | n :: r => by
    show max 0 (PyData.depthAll (r.map PyData.int)) = 0
    rw [deep_ints r] <;> rfl
theorem shp_ints (ns : List Int) : SeqAt.shaped (.list (ns.map PyData.int)) = true := by
  unfold SeqAt.shaped
  show (PyData.canLayAll0 (ns.map PyData.int) && decide (PyData.depthAll (ns.map PyData.int) + 1 ≤ 64)) = true
  rw [lay_ints, deep_ints] <;> rfl
section
variable {X : Cx}
def rEqL (K : PySem.W.Frag) : R2 := fun x y H Q => ∃ (b c : Addr) (ns ms : List Int), x = .ref b ∧ y = .ref c ∧ SqL K H b (ns.map V.int) ∧ SqL K H c (ms.map V.int) ∧ Q (.bl (decide (ns = ms))) H
def rNeL (K : PySem.W.Frag) : R2 := fun x y H Q => ∃ (b c : Addr) (ns ms : List Int), x = .ref b ∧ y = .ref c ∧ SqL K H b (ns.map V.int) ∧ SqL K H c (ms.map V.int) ∧ Q (.bl (!decide (ns = ms))) H
theorem op_eqL (hu : X.A.units + 64 < cLine) : OpR X (compareOp .Eq) (rEqL X.K) := by
  intro pins s σ H x y v u Q I rx ry h
  obtain ⟨b, c, ns, ms, rfl, rfl, h1, h2, q⟩ := h
  refine op_eqD hu pins s σ H _ _ v u Q I rx ry ⟨_, _, .lst h1 (dp_ints ns), .lst h2 (dp_ints ms), shp_ints ns, shp_ints ms, ?_⟩
  show Q (.bl (PyData.eqvAll (ns.map PyData.int) (ms.map PyData.int))) H
  rw [eqv_ints]
  exact q
theorem op_neL (hu : X.A.units + 64 < cLine) : OpR X (compareOp .NotEq) (rNeL X.K) := by
  intro pins s σ H x y v u Q I rx ry h
  obtain ⟨b, c, ns, ms, rfl, rfl, h1, h2, q⟩ := h
  refine op_neD hu pins s σ H _ _ v u Q I rx ry ⟨_, _, .lst h1 (dp_ints ns), .lst h2 (dp_ints ms), shp_ints ns, shp_ints ms, ?_⟩
  show Q (.bl (!PyData.eqvAll (ns.map PyData.int) (ms.map PyData.int))) H
  rw [eqv_ints]
  exact q
end
theorem zs_dec (x y : List Nat) : decide (zs x = zs y) = decide (x = y) := by
  by_cases h : x = y
  · subst h; simp
  · rw [decide_eq_false h, decide_eq_false fun z => h (zs_inj z)]
theorem iv_set (r : List Nat) (j n : Nat) : (iv r).set j (V.int (n : Int)) = iv (r.set j n) := by
  show ((r.map _).map V.int).set j _ = ((r.set j n).map _).map V.int
  rw [List.map_set, List.map_set]
theorem iv_ix {r : List Nat} {i : Int} {n : Nat} (h0 : 0 ≤ i) (h : r[i.toNat]? = some n) : atI (iv r) i = some (V.int (n : Int)) := L2.at_of (j := i.toNat) (by omega) (iv_at h)
theorem iv_nat {r : List Nat} {i : Nat} (h : i < r.length) : atI (iv r) (i : Int) = some (V.int ((Rc94.at_ r i : Nat) : Int)) := by
  have e : r[i]? = some r[i] := List.getElem?_eq_getElem h
  rw [at_of e]
  exact atI_nat (iv_at e)
theorem ixN_of {n : Nat} {i : Int} (h0 : 0 ≤ i) (h : i < n) : ixN n i = some i.toNat := by
  unfold ixN
  rw [if_pos h0, if_pos h]
theorem at_get {r : List Nat} {i : Nat} (h : i < r.length) : r[i]? = some (Rc94.at_ r i) := by
  rw [at_of (List.getElem?_eq_getElem h)]
  exact List.getElem?_eq_getElem h
def comp (x y : List Nat) : Bool := x.length == y.length && x.sum == y.sum
def sp_are_comparable (K : PySem.W.Frag) : Sp := fun vs H Q _ => ∃ (a b : Addr) (x y : List Nat), vs = [.ref a, .ref b] ∧ SqL K H a (iv x) ∧ SqL K H b (iv y) ∧ Q (.bl (comp x y)) H
def sp_are_row_numbers : Sp := fun vs H Q _ => ∃ i j : Int, vs = [.int i, .int j] ∧ Q (.bl (Rc94.below i 4 && Rc94.below j 4)) H
def sp_with_moved : Sp := fun vs H Q _ => ∃ (b : Addr) (r : List Nat) (x y n : Nat), vs = [.ref b, .int (x : Int), .int (y : Int), .int (n : Int)] ∧ H b = some (.lst (iv r)) ∧ x < r.length ∧ y < r.length ∧ x ≠ y ∧ n ≤ Rc94.at_ r x ∧
  ∀ c, H c = none → Q (.ref c) (upd H c (.lst (iv (Rc94.moved r x y n))))
def sp_is_countable (K : PySem.W.Frag) : Sp := fun vs H Q _ => ∃ (b : Addr) (r : List Nat), vs = [.ref b] ∧ SqL K H b (iv r) ∧ 1 ≤ r.length ∧ r.length ≤ 12 ∧ Q (.bl (decide (r.length ≤ 6) && r.all fun x => decide (x ≤ 6))) H
section
variable {P : Program} {w : World} {K : PySem.W.Frag} {mg : Str → Option Value} {base : Heap} {a : Ads}
theorem sc_greatest_first : FnScope ["row"] ["row"] (defScope s_greatest_first) := ⟨rfl, rfl, rfl, by decide +kernel, rfl, by decide +kernel, by decide +kernel⟩
theorem ok_greatest_first (T : Txt K mg a) : FnOk P w K mg base CX0 1 a.greatest_first.a a.greatest_first.d ["row"] (sp_greatest_first K) := by
  refine T.greatest_first.F.ok sc_greatest_first (fun vs H Q E h => ?_) (fun cdv A outer s H vs Q E hr h => ?_)
  · obtain ⟨b, r, rfl, _⟩ := h
    rfl
  · obtain ⟨b, r, rfl, hs, h64, k⟩ := h
    refine ⟨_, pss_one (ps_ret (pe_sortedR rfl T.sorted (pa_cons (pv 0) pa_nil))), ?_⟩
    refine ⟨_, rfl, b, zs r, rfl, hs, by rw [zs_len]; exact h64, fun ns' p h1 h2 hp => ?_⟩
    rw [sorted_of h1 h2]
    exact k p hp
theorem sc_is_row_number : FnScope ["i"] ["i"] (defScope s_is_row_number) := ⟨rfl, rfl, rfl, by decide +kernel, rfl, by decide +kernel, by decide +kernel⟩
theorem ok_is_row_number (T : Txt K mg a) : FnOk P w K mg base CX0 1 a.is_row_number.a a.is_row_number.d ["i"] sp_is_row_number := by
  refine T.is_row_number.F.ok sc_is_row_number (fun vs H Q E h => ?_) (fun cdv A outer s H vs Q E hr h => ?_)
  · obtain ⟨i, rfl, _⟩ := h
    rfl
  · obtain ⟨i, rfl, k⟩ := h
    refine ⟨_, pss_one (ps_ret (pe_chain op_le op_lt pe_int (pv 0) (gl_int T.gROWS))), ?_⟩
    refine ⟨_, rfl, _, _, rfl, rfl, _, rfl, ite2 (fun h => ?_) (fun h => ?_)⟩
    · refine ⟨_, _, rfl, rfl, ?_⟩
      have e : decide (i < 4) = Rc94.below i 4 := by
        unfold Rc94.below
        rw [h]
        rfl
      exact to_bl (Q := Q) e k
    · have e : false = Rc94.below i 4 := by
        unfold Rc94.below
        rw [Bool.eq_false_iff.mpr h]
        rfl
      exact to_bl (Q := Q) e k
theorem sc_is_place : FnScope ["row", "p"] ["row", "p"] (defScope s_is_place) := ⟨rfl, rfl, rfl, by decide +kernel, rfl, by decide +kernel, by decide +kernel⟩
theorem ok_is_place (T : Txt K mg a) : FnOk P w K mg base CX0 1 a.is_place.a a.is_place.d ["row", "p"] (sp_is_place K) := by
  refine T.is_place.F.ok sc_is_place (fun vs H Q E h => ?_) (fun cdv A outer s H vs Q E hr h => ?_)
  · obtain ⟨b, r, p, rfl, _⟩ := h
    rfl
  · obtain ⟨b, r, p, rfl, hs, k⟩ := h
    refine ⟨_, pss_one (ps_ret (pe_chain op_le op_lt pe_int (pv 1) (pe_callB call_len_seq (by rfl) T.len PySem.boot_len (pa_cons (pv 0) pa_nil)))), ?_⟩
    refine ⟨_, rfl, _, _, rfl, rfl, _, rfl, ite2 (fun h => ?_) (fun h => ?_)⟩
    · refine ⟨_, rfl, b, _, rfl, .inl hs, _, _, rfl, rfl, ?_⟩
      have e : decide (p < ((iv r).length : Int)) = Rc94.below p r.length := by
        unfold Rc94.below
        rw [h, iv_len]
        rfl
      exact to_bl (Q := Q) e k
    · have e : false = Rc94.below p r.length := by
        unfold Rc94.below
        rw [Bool.eq_false_iff.mpr h]
        rfl
      exact to_bl (Q := Q) e k
theorem sc_is_row : FnScope ["numbers"] ["numbers"] (defScope s_is_row) := ⟨rfl, rfl, rfl, by decide +kernel, rfl, by decide +kernel, by decide +kernel⟩
theorem ok_is_row (T : Txt K mg a) : FnOk P w K mg base CX0 1 a.is_row.a a.is_row.d ["numbers"] (sp_is_row K) := by
  refine T.is_row.F.ok sc_is_row (fun vs H Q E h => ?_) (fun cdv A outer s H vs Q E hr h => ?_)
  · obtain ⟨b, r, rfl, _⟩ := h
    rfl
  · obtain ⟨b, r, rfl, hs, k⟩ := h
    refine ⟨_, pss_one (ps_ret (pe_and (pe_chain op_le op_le pe_int (pe_callB call_len_seq (by rfl) T.len PySem.boot_len (pa_cons (pv 0) pa_nil)) (gl_int T.gLONGEST)) (pe_one (pe_cmpR op_le (pe_callB (cr_max rfl) (by rfl) T.max boot_max (pa_cons (pv 0) pa_nil)) (gl_int T.gGREATEST) (nomark _))))), ?_⟩
    refine ⟨_, rfl, b, _, rfl, .inl hs, _, _, rfl, rfl, _, rfl, ite2 (fun h => ?_) (fun h => ?_)⟩
    · refine ⟨_, _, rfl, rfl, _, rfl, ite2 (fun h2 => ?_) (fun h2 => ?_)⟩
      · have h1' := of_decide_eq_true h
        have h2' := of_decide_eq_true h2
        rw [iv_len] at h1' h2'
        refine ⟨_, rfl, b, zs r, rfl, hs, by rw [zs_len]; omega, fun m hm1 hm2 => ⟨_, _, rfl, rfl, ?_⟩⟩
        have e : decide (m ≤ 1000) = decide (1 ≤ r.length ∧ r.length ≤ 12 ∧ ∀ x ∈ r, x ≤ 1000) := by
          refine decide_eq_decide.mpr ⟨fun hle => ⟨by omega, by omega, fun x hx => ?_⟩, fun hall => ?_⟩
          · have := hm2 (x : Int) (List.mem_map.mpr ⟨x, hx, rfl⟩)
            omega
          · obtain ⟨x, hx, rfl⟩ := List.mem_map.mp hm1
            have := hall.2.2 x hx
            omega
        exact to_bl (Q := Q) e k
      · have e : false = decide (1 ≤ r.length ∧ r.length ≤ 12 ∧ ∀ x ∈ r, x ≤ 1000) := by
          refine (decide_eq_false fun z => h2 ?_).symm
          rw [iv_len]
          exact decide_eq_true (by omega)
        exact to_bl (Q := Q) e k
    · refine ⟨_, rfl, iteF ?_⟩
      have e : false = decide (1 ≤ r.length ∧ r.length ≤ 12 ∧ ∀ x ∈ r, x ≤ 1000) := by
        refine (decide_eq_false fun z => h ?_).symm
        rw [iv_len]
        exact decide_eq_true (by omega)
      exact to_bl (Q := Q) e k
theorem sc_may_take : FnScope ["row", "p", "q", "a"] ["row", "p", "q", "a"] (defScope s_may_take) := ⟨rfl, rfl, rfl, by decide +kernel, rfl, by decide +kernel, by decide +kernel⟩
theorem ok_may_take (T : Txt K mg a) : FnOk P w K mg base CX0 2 a.may_take.a a.may_take.d ["row", "p", "q", "a"] (sp_may_take K) := by
  have G : FnOk P w K mg base CX0 1 a.is_place.a a.is_place.d ["row", "p"] (sp_is_place K) := ok_is_place T
  refine T.may_take.F.ok sc_may_take (fun vs H Q E h => ?_) (fun cdv A outer s H vs Q E hr h => ?_)
  · obtain ⟨b, r, p, q, x, rfl, _⟩ := h
    rfl
  · obtain ⟨b, r, p, q, x, rfl, hs, k⟩ := h
    refine ⟨_, pss_one (ps_ret (pe_and (pe_call G hr rfl T.is_place.m T.is_place.k T.is_place.b .nil pass0 (pa_cons (pv 0) (pa_cons (pv 1) pa_nil))) (pe_and (pe_call G hr rfl T.is_place.m T.is_place.k T.is_place.b .nil pass0 (pa_cons (pv 0) (pa_cons (pv 2) pa_nil))) (pe_and (pe_cmpR op_ne (pv 1) (pv 2) (nomark _)) (pe_one (pe_chain op_le op_le pe_int (pv 3) (pe_ix ix_list (pv 0) (pv 1) (fun _ _ => rfl)))))))), ?_⟩
    refine ⟨_, rfl, _, rfl, b, r, p, rfl, hs, _, rfl, ite2 (fun h => ?_) (fun h => ?_)⟩
    · rw [h, Bool.true_and] at k
      refine ⟨_, rfl, _, rfl, b, r, q, rfl, hs, _, rfl, ite2 (fun h2 => ?_) (fun h2 => ?_)⟩
      · rw [h2, Bool.true_and] at k
        refine ⟨_, rfl, _, rfl, rfl, _, rfl, ite2 (fun h3 => ?_) (fun h3 => ?_)⟩
        · rw [dec_vint] at h3
          have hpq : p ≠ q := by simpa using h3
          rw [show (p != q) = true from by simpa using hpq, Bool.true_and] at k
          obtain ⟨p0, p1⟩ := below4_iff.mp h
          obtain ⟨n, hn⟩ : ∃ n, r[p.toNat]? = some n := ⟨_, List.getElem?_eq_getElem (by omega)⟩
          rw [at_of hn] at k
          refine ⟨_, rfl, _, _, rfl, rfl, _, rfl, ite2 (fun h4 => ?_) (fun h4 => ?_)⟩
          · refine ⟨_, rfl, _, rfl, b, _, p, _, rfl, rfl, hs, L2.at_of (j := p.toNat) (by omega) (iv_at hn), _, _, rfl, rfl, ?_⟩
            have e : decide (x ≤ (n : Int)) = Rc94.between x 0 n := by
              unfold Rc94.between
              rw [show decide (((0 : Nat) : Int) ≤ x) = true from h4, Bool.true_and]
            exact to_bl (Q := Q) e k
          · have e : false = Rc94.between x 0 n := by
              unfold Rc94.between
              rw [show decide (((0 : Nat) : Int) ≤ x) = false from Bool.eq_false_iff.mpr h4]
              rfl
            exact to_bl (Q := Q) e k
        · rw [dec_vint] at h3
          have hpq : p = q := by simpa using h3
          rw [show (p != q) = false from by simp [hpq]] at k
          exact k
      · rw [Bool.eq_false_iff.mpr h2] at k
        exact k
    · rw [Bool.eq_false_iff.mpr h] at k
      exact k
theorem sc_first_of : FnScope ["told", "most"] ["told", "most"] (defScope s_first_of) := ⟨rfl, rfl, rfl, by decide +kernel, rfl, by decide +kernel, by decide +kernel⟩
theorem cut_take (xs : List V) {m : Int} (h : 0 ≤ m) : cutV xs none (some m) = xs.take m.toNat := by
  unfold cutV HT.sIx
  dsimp only
  rw [if_neg (by omega), List.drop_zero, Nat.sub_zero]
  by_cases q : m.toNat ≤ xs.length
  · rw [Nat.min_eq_left q]
  · rw [Nat.min_eq_right (by omega), List.take_of_length_le (Nat.le_refl _), List.take_of_length_le (by omega)]
theorem ok_first_of (T : Txt K mg a) : FnOk P w K mg base CX0 1 a.first_of.a a.first_of.d ["told", "most"] (sp_first_of K) := by
  refine T.first_of.F.ok sc_first_of (fun vs H Q E h => ?_) (fun cdv A outer s H vs Q E hr h => ?_)
  · obtain ⟨b, xs, m, rfl, _⟩ := h
    rfl
  · obtain ⟨b, xs, m, rfl, hs, k⟩ := h
    refine ⟨_, pss_cons (ps_if (pt_chain op_le op_le pe_int (pv 1) (gl_int T.gLONGEST)) (pss_one (ps_ret (pe_slice sl_list (pv 0) po_none (po_some (pv 1))))) pss_nil) (pss_one (ps_ret (pe_lst pa_nil))), ?_⟩
    have out : ¬ (1 ≤ m ∧ m ≤ 12) → ∀ q, H q = none → Q (.ref q) (upd H q (.lst [])) := fun hm q hq => by
      have e := k q hq
      rw [room_12, if_neg hm] at e
      exact e
    refine ⟨_, rfl, _, _, rfl, rfl, _, rfl, ite2 (fun h => ?_) (fun h => ?_)⟩
    · refine ⟨_, _, rfl, rfl, _, rfl, ite2 (fun h2 => ?_) (fun h2 => ?_)⟩
      · have h1' := of_decide_eq_true h
        have h2' := of_decide_eq_true h2
        refine ⟨_, rfl, _, rfl, _, rfl, b, xs, rfl, hs, fun q hq => ?_⟩
        rw [cut_take xs (by omega)]
        have e := k q hq
        rw [room_12, if_pos ⟨h1', h2'⟩] at e
        exact e
      · exact ⟨Nat.zero_le _, out fun z => h2 (decide_eq_true z.2)⟩
    · exact ⟨_, rfl, iteF ⟨Nat.zero_le _, out fun z => h (decide_eq_true z.1)⟩⟩
theorem sc_are_comparable : FnScope ["first", "second"] ["first", "second"] (defScope s_are_comparable) := ⟨rfl, rfl, rfl, by decide +kernel, rfl, by decide +kernel, by decide +kernel⟩
theorem ok_are_comparable (T : Txt K mg a) : FnOk P w K mg base CX0 1 a.are_comparable.a a.are_comparable.d ["first", "second"] (sp_are_comparable K) := by
  refine T.are_comparable.F.ok sc_are_comparable (fun vs H Q E h => ?_) (fun cdv A outer s H vs Q E hr h => ?_)
  · obtain ⟨b, c, x, y, rfl, _⟩ := h
    rfl
  · obtain ⟨b, c, x, y, rfl, h1, h2, k⟩ := h
    refine ⟨_, pss_one (ps_ret (pe_and (pe_cmpR op_eq (pe_callB call_len_seq (by rfl) T.len PySem.boot_len (pa_cons (pv 0) pa_nil)) (pe_callB call_len_seq (by rfl) T.len PySem.boot_len (pa_cons (pv 1) pa_nil)) (nomark _)) (pe_one (pe_cmpR op_eq (pe_callB (cr_sum rfl) (by rfl) T.sum boot_sum (pa_cons (pv 0) pa_nil)) (pe_callB (cr_sum rfl) (by rfl) T.sum boot_sum (pa_cons (pv 1) pa_nil)) (nomark _))))), ?_⟩
    refine ⟨_, rfl, b, _, rfl, .inl h1, _, rfl, c, _, rfl, .inl h2, rfl, _, rfl, ite2 (fun q => ?_) (fun q => ?_)⟩
    · rw [dec_vint] at q
      have el : x.length = y.length := by
        have z := of_decide_eq_true q
        rw [iv_len, iv_len] at z
        omega
      refine ⟨_, rfl, b, zs x, rfl, h1, _, rfl, c, zs y, rfl, h2, rfl, ?_⟩
      have e : decide (V.int (zs x).sum = V.int (zs y).sum) = comp x y := by
        unfold comp
        rw [dec_vint, zs_sum, zs_sum, beq_iff_eq.mpr el, Bool.true_and]
        by_cases z : x.sum = y.sum
        · rw [beq_iff_eq.mpr z]; exact decide_eq_true (by omega)
        · rw [beq_eq_false_iff_ne.mpr z]; exact decide_eq_false (by omega)
      exact to_bl (Q := Q) e k
    · rw [dec_vint] at q
      have ne : x.length ≠ y.length := fun z => q (decide_eq_true (by rw [iv_len, iv_len, z]))
      have e : false = comp x y := by
        unfold comp
        rw [beq_eq_false_iff_ne.mpr ne]
        rfl
      exact to_bl (Q := Q) e k
theorem sc_are_row_numbers : FnScope ["i", "j"] ["i", "j"] (defScope s_are_row_numbers) := ⟨rfl, rfl, rfl, by decide +kernel, rfl, by decide +kernel, by decide +kernel⟩
theorem ok_are_row_numbers (T : Txt K mg a) : FnOk P w K mg base CX0 2 a.are_row_numbers.a a.are_row_numbers.d ["i", "j"] sp_are_row_numbers := by
  have G : FnOk P w K mg base CX0 1 a.is_row_number.a a.is_row_number.d ["i"] sp_is_row_number := ok_is_row_number T
  refine T.are_row_numbers.F.ok sc_are_row_numbers (fun vs H Q E h => ?_) (fun cdv A outer s H vs Q E hr h => ?_)
  · obtain ⟨i, j, rfl, _⟩ := h
    rfl
  · obtain ⟨i, j, rfl, k⟩ := h
    refine ⟨_, pss_one (ps_ret (pe_and (pe_call G hr rfl T.is_row_number.m T.is_row_number.k T.is_row_number.b .nil pass0 (pa_cons (pv 0) pa_nil)) (pe_one (pe_call G hr rfl T.is_row_number.m T.is_row_number.k T.is_row_number.b .nil pass0 (pa_cons (pv 1) pa_nil))))), ?_⟩
    refine ⟨_, rfl, i, rfl, _, rfl, ite2 (fun q => ?_) (fun q => ?_)⟩
    · rw [q, Bool.true_and] at k
      exact ⟨_, rfl, j, rfl, k⟩
    · rw [Bool.eq_false_iff.mpr q] at k
      exact k
theorem sc_with_moved : FnScope ["row", "p", "q", "a", "after"] ["row", "p", "q", "a"] (defScope s_with_moved) := ⟨rfl, rfl, rfl, by decide +kernel, rfl, by decide +kernel, by decide +kernel⟩
theorem ok_with_moved (T : Txt K mg a) : FnOk P w K mg base CX0 1 a.with_moved.a a.with_moved.d ["row", "p", "q", "a"] sp_with_moved := by
  refine T.with_moved.F.ok sc_with_moved (fun vs H Q E h => ?_) (fun cdv A outer s H vs Q E hr h => ?_)
  · obtain ⟨b, r, x, y, n, rfl, _⟩ := h
    rfl
  · obtain ⟨b, r, x, y, n, rfl, hb, hx, hy, hxy, hn, k⟩ := h
    refine ⟨_, pss_cons (ps_set (i := 4) sc_with_moved.nd rfl (Or.inl rfl) (pe_callTy call_list_of (by rfl) T.list boot_list (pa_cons (pv 0) pa_nil)))
      (pss_cons (ps_asg (pe_op op_sub (pe_ix ix_list (pv 0) (pv 1) (fun _ _ => rfl)) (pv 3)) (pg_sub (pv 4) (pv 1) set_list))
      (pss_cons (ps_asg (pe_op op_add (pe_ix ix_list (pv 0) (pv 2) (fun _ _ => rfl)) (pv 3)) (pg_sub (pv 4) (pv 2) set_list))
      (pss_one (ps_ret (pv 4))))), ?_⟩
    refine ⟨_, rfl, b, _, rfl, .inl (SqL.of hb), fun c hc => ?_⟩
    have nbc : b ≠ c := ne_of_none hb hc
    have s1 : Same H (upd H c (.lst (iv r))) := same_new hc
    refine ⟨_, rfl, _, rfl, b, _, _, _, rfl, rfl, SqL.of (s1 _ _ hb), iv_nat hx, _, rfl, _, _, rfl, rfl, _, rfl, _, rfl, c, _, _, x, rfl, rfl, upd_same, ixN_of (by omega) (by rw [iv_len]; omega), ?_⟩
    have e1 : ((Rc94.at_ r x : Nat) : Int) - (n : Int) = ((Rc94.at_ r x - n : Nat) : Int) := by omega
    have e2 : ((Rc94.at_ r y : Nat) : Int) + (n : Int) = ((Rc94.at_ r y + n : Nat) : Int) := by omega
    have em : Rc94.moved r x y n = (r.set x (Rc94.at_ r x - n)).set y (Rc94.at_ r y + n) := by
      unfold Rc94.moved
      dsimp only
      rw [at_set hx, if_neg hxy]
    have eH1 : upd (upd H c (.lst (iv r))) c (.lst ((iv r).set x (V.int (((Rc94.at_ r x : Nat) : Int) - (n : Int))))) = upd H c (.lst (iv (r.set x (Rc94.at_ r x - n)))) := by rw [upd_upd, e1, iv_set]
    refine on_hp eH1 ?_
    have hb3 : (upd H c (.lst (iv (r.set x (Rc94.at_ r x - n))))) b = some (.lst (iv r)) := by
      rw [upd_ne nbc]
      exact hb
    refine ⟨_, rfl, _, rfl, b, _, _, _, rfl, rfl, SqL.of hb3, iv_nat hy, _, rfl, _, _, rfl, rfl, _, rfl, _, rfl, c, _, _, y, rfl, rfl, upd_same, ixN_of (by omega) (by rw [iv_len, List.length_set]; omega), ?_⟩
    have eH2 : upd (upd H c (.lst (iv (r.set x (Rc94.at_ r x - n))))) c (.lst ((iv (r.set x (Rc94.at_ r x - n))).set y (V.int (((Rc94.at_ r y : Nat) : Int) + (n : Int))))) = upd H c (.lst (iv (Rc94.moved r x y n))) := by rw [upd_upd, e2, iv_set, ← em]
    refine on_hp eH2 ?_
    exact ⟨_, rfl, k c hc⟩
theorem sc_is_countable : FnScope ["row"] ["row"] (defScope s_is_countable) := ⟨rfl, rfl, rfl, by decide +kernel, rfl, by decide +kernel, by decide +kernel⟩
theorem ok_is_countable (T : Txt K mg a) : FnOk P w K mg base CX0 1 a.is_countable.a a.is_countable.d ["row"] (sp_is_countable K) := by
  refine T.is_countable.F.ok sc_is_countable (fun vs H Q E h => ?_) (fun cdv A outer s H vs Q E hr h => ?_)
  · obtain ⟨b, r, rfl, _⟩ := h
    rfl
  · obtain ⟨b, r, rfl, hb, h1, h12, k⟩ := h
    refine ⟨_, pss_one (ps_ret (pe_and (pe_cmpR op_le (pe_callB call_len_seq (by rfl) T.len PySem.boot_len (pa_cons (pv 0) pa_nil)) (gl_int T.gLONGEST_COUNTED) (nomark _)) (pe_one (pe_cmpR op_le (pe_callB (cr_max rfl) (by rfl) T.max boot_max (pa_cons (pv 0) pa_nil)) (gl_int T.gGREATEST_COUNTED) (nomark _))))), ?_⟩
    refine ⟨_, rfl, b, _, rfl, .inl hb, _, _, rfl, rfl, _, rfl, ite2 (fun q => ?_) (fun q => ?_)⟩
    · have q := of_decide_eq_true q
      rw [iv_len] at q
      rw [decide_eq_true (show r.length ≤ 6 by omega), Bool.true_and] at k
      refine ⟨_, rfl, b, zs r, rfl, hb, by rw [zs_len]; omega, fun m hm1 hm2 => ⟨_, _, rfl, rfl, ?_⟩⟩
      have e : decide (m ≤ 6) = r.all fun x => decide (x ≤ 6) := by
        cases z : (r.all fun x => decide (x ≤ 6)) with
        | true =>
          obtain ⟨x, hx, rfl⟩ := List.mem_map.mp hm1
          have := of_decide_eq_true (List.all_eq_true.mp z x hx)
          exact decide_eq_true (by omega)
        | false =>
          refine decide_eq_false fun z2 => ?_
          have : (r.all fun x => decide (x ≤ 6)) = true := List.all_eq_true.mpr fun x hx => decide_eq_true (by
            have := hm2 (x : Int) (List.mem_map.mpr ⟨x, hx, rfl⟩)
            omega)
          rw [z] at this
          cases this
      exact to_bl (Q := Q) e k
    · have e : false = (decide (r.length ≤ 6) && r.all fun x => decide (x ≤ 6)) := by
        rw [decide_eq_false fun z => q (decide_eq_true (by rw [iv_len]; omega))]
        rfl
      exact to_bl (Q := Q) e k
end
end Ev
end
section
set_option Elab.async false
set_option linter.all false
set_option autoImplicit false
set_option maxRecDepth 100000
set_option maxHeartbeats 4000000
namespace Ev
open PySem PySem.Spec PyProof.Rows L2
section
variable {P : Program} {w : World} {K : PySem.W.Frag} {mg : Str → Option Value} {base : Heap} {a : Ads}
theorem sc_is_over : FnScope ["first", "second", "lead", "mine", "other"] ["first", "second"] (defScope s_is_over) := ⟨rfl, rfl, rfl, by decide +kernel, rfl, by decide +kernel, by decide +kernel⟩
theorem ok_is_over (T : Txt K mg a) : FnOk P w K mg base CX0 2 a.is_over.a a.is_over.d ["first", "second"] (sp_is_over K) := by
  have G0 : FnOk P w K mg base CX0 1 a.are_comparable.a a.are_comparable.d ["first", "second"] (sp_are_comparable K) := ok_are_comparable T
  have G : FnOk P w K mg base CX0 1 a.greatest_first.a a.greatest_first.d ["row"] (sp_greatest_first K) := ok_greatest_first T
  refine T.is_over.F.ok sc_is_over (fun vs H Q E h => ?_) (fun cdv A outer s H vs Q E hr h => ?_)
  · obtain ⟨b, c, x, y, rfl, _⟩ := h
    rfl
  · obtain ⟨b, c, x, y, rfl, h1, h2, l1, l2, k⟩ := h
    refine ⟨_, pss_cons (ps_if (pt_not (pt_val (pe_call G0 hr rfl T.are_comparable.m T.are_comparable.k T.are_comparable.b .nil pass0 (pa_cons (pv 0) (pa_cons (pv 1) pa_nil))))) (pss_one (ps_ret pe_bl)) pss_nil)
      (pss_cons (ps_set (i := 2) sc_is_over.nd rfl (Or.inl rfl) pe_int)
      (pss_cons (ps_for PassesOwn.never rfl (pi_zip rfl T.zip (pa_cons (pe_call G hr rfl T.greatest_first.m T.greatest_first.k T.greatest_first.b .nil pass0 (pa_cons (pv 0) pa_nil)) (pa_cons (pe_call G hr rfl T.greatest_first.m T.greatest_first.k T.greatest_first.b .nil pass0 (pa_cons (pv 1) pa_nil)) pa_nil))) (pg_tup rfl (pgs_cons (pg_name (i := 3) sc_is_over.nd rfl (Or.inl rfl)) (pgs_cons (pg_name (i := 4) sc_is_over.nd rfl (Or.inl rfl)) pgs_nil))) (pss_cons (ps_set (i := 2) sc_is_over.nd rfl (Or.inl rfl) (pe_op op_sub (pe_op op_add (pv 2) (pv 3)) (pv 4)))
      (pss_one (ps_if (pt_cmpR op_lt (pv 2) pe_int (nomark _)) (pss_one (ps_ret pe_bl)) pss_nil))))
      (pss_one (ps_ret pe_bl)))), ?_⟩
    refine ⟨_, rfl, _, rfl, b, c, x, y, rfl, h1, h2, _, rfl, ite2 (fun q => ?_) (fun q => ?_)⟩
    · have e : Rc94.over x y = false := by
        cases z : Rc94.over x y with
        | false => rfl
        | true =>
          obtain ⟨z1, z2, _⟩ := over_iff.mp z
          unfold comp at q
          rw [beq_iff_eq.mpr z1, beq_iff_eq.mpr z2] at q
          cases q
      exact to_bl (Q := Q) e.symm (k H (Same.refl H))
    · obtain ⟨el, es⟩ : x.length = y.length ∧ x.sum = y.sum := by
        rw [Bool.not_eq_true', Bool.not_eq_false] at q
        unfold comp at q
        rw [Bool.and_eq_true, beq_iff_eq, beq_iff_eq] at q
        exact q
      · skip
        refine ⟨_, rfl, b, x, rfl, h1, l1, fun q1 hq1 => ⟨_, rfl, c, y, rfl, (same_new hq1).seq h2, l2, fun q2 hq2 => ?_⟩⟩
        have s1 : Same H (upd H q1 (.lst (iv (Rc94.sorted x)))) := same_new hq1
        have s2 : Same (upd H q1 (.lst (iv (Rc94.sorted x)))) (upd (upd H q1 (.lst (iv (Rc94.sorted x)))) q2 (.lst (iv (Rc94.sorted y)))) := same_new hq2
        have a1 := s2 q1 _ upd_same
        have a2 : (upd (upd H q1 (.lst (iv (Rc94.sorted x)))) q2 (.lst (iv (Rc94.sorted y)))) q2 = some (.lst (iv (Rc94.sorted y))) := upd_same
        have s3 := s1.trans s2
        generalize upd (upd H q1 (.lst (iv (Rc94.sorted x)))) q2 (.lst (iv (Rc94.sorted y))) = H2 at a1 a2 s3
        refine ⟨q1, q2, _, _, rfl, SqL.of a1, SqL.of a2, for_zip (K := K) (a := q1) (b := q2) (xs := iv (Rc94.sorted x)) (ys := iv (Rc94.sorted y))
          (fun i σ H' => ∃ m o : Option V, σ = [some (.ref b), some (.ref c), some (.int ((Rc94.head x i : Int) - (Rc94.head y i : Int))), m, o] ∧ Same H2 H' ∧ ∀ j, j ≤ i → Rc94.head y j ≤ Rc94.head x j)
          (by rw [iv_len, iv_len, sorted_len, sorted_len, el]) ⟨none, none, rfl, Same.refl H2, fun j hj => by
            have : j = 0 := by omega
            subst this
            exact Nat.le_refl _⟩ (fun i σ H' _ ⟨_, _, _, sm, _⟩ => ⟨SqL.of (sm _ _ a1), SqL.of (sm _ _ a2)⟩) ?_ ?_⟩
        · rintro i x' y' σ H' t hx hy ⟨m, o, rfl, sm, hle⟩ ht
          obtain ⟨n1, e1, rfl⟩ := iv_of hx
          obtain ⟨n2, e2, rfl⟩ := iv_of hy
          have s4 : Same H2 (upd H' t (.tup [V.int (n1 : Int), V.int (n2 : Int)])) := sm.trans (same_new ht)
          refine ⟨t, _, rfl, SqT.of upd_same, rfl, _, _, rfl, _, _, rfl, rfl, ?_⟩
          refine ⟨_, rfl, _, rfl, _, _, rfl, rfl, _, rfl, _, _, rfl, rfl, ?_⟩
          have ee : (Rc94.head x i : Int) - (Rc94.head y i : Int) + (n1 : Int) - (n2 : Int) = (Rc94.head x (i + 1) : Int) - (Rc94.head y (i + 1) : Int) := by
            rw [head_succ e1, head_succ e2]
            omega
          have hi : i < x.length := by
            have := (List.getElem?_eq_some_iff.mp e1).1
            rw [sorted_len] at this
            exact this
          refine ⟨_, rfl, _, _, rfl, rfl, _, rfl, ite2 (fun q => ?_) (fun q => ?_)⟩
          · have q := of_decide_eq_true q
            have e : Rc94.over x y = false := over_not (k := i + 1) hi (by omega)
            exact to_bl (Q := Q) e.symm (k _ (s3.trans s4))
          · have q : ¬ _ := fun z => q (decide_eq_true z)
            refine ⟨_, _, by rw [← ee]; rfl, s4, fun j hj => ?_⟩
            by_cases hj' : j ≤ i
            · exact hle j hj'
            · have : j = i + 1 := by omega
              subst this
              omega
        · rintro σ H' ⟨m, o, rfl, sm, hle⟩
          rw [iv_len, sorted_len] at hle
          have e : Rc94.over x y = true := over_iff.mpr ⟨el, es, hle⟩
          exact to_bl (Q := Q) e.symm (k _ (s3.trans sm))
def fl (l : Addr) : List (Str × V) := putF "rows" (.ref l) []
theorem fl_rows (l : Addr) : (fl l).lookup ("rows" : Str) = some (.ref l) := by
  unfold fl
  rw [lookup_putF, if_pos rfl]
theorem fl_no (l : Addr) {m : Str} (h : ¬ m = "rows") : (fl l).lookup m = none := by
  unfold fl
  rw [lookup_putF, if_neg h]
  all_goals rfl
theorem fl_put (l l' : Addr) : putF "rows" (.ref l') (fl l) = fl l' := by
  show (if ("rows" : Str) = "rows" then [(("rows" : Str), V.ref l')] else _) = ([("rows", V.ref l')] : List (Str × V))
  rw [if_pos rfl]
structure LstAt (H : Hp) (l : Addr) (as : List Addr) (rs : List (List Nat)) : Prop where
  lst : H l = some (.lst (as.map V.ref))
  len : as.length = rs.length
  row : ∀ (j : Nat) (b : Addr), as[j]? = some b → ∃ r, rs[j]? = some r ∧ H b = some (.lst (iv r))
structure RowsAt (C : Addr) (H : Hp) (p l : Addr) (as : List Addr) (rs : List (List Nat)) : Prop where
  obj : ∃ dx, H p = some (.ins C dx (fl l))
  at_ : LstAt H l as rs
theorem LstAt.mono {H H' : Hp} {l : Addr} {as : List Addr} {rs : List (List Nat)} (R : LstAt H l as rs) (s : Same H H') : LstAt H' l as rs :=
  ⟨s _ _ R.lst, R.len, fun j b h => let ⟨r, h1, h2⟩ := R.row j b h; ⟨r, h1, s _ _ h2⟩⟩
theorem RowsAt.mono {C : Addr} {H H' : Hp} {p l : Addr} {as : List Addr} {rs : List (List Nat)} (R : RowsAt C H p l as rs) (s : Same H H') : RowsAt C H' p l as rs :=
  ⟨let ⟨dx, h⟩ := R.obj; ⟨dx, s _ _ h⟩, R.at_.mono s⟩
theorem ref_iv {as : List Addr} {r : List Nat} (h : as ≠ []) : HO.lst (as.map V.ref) ≠ HO.lst (iv r) := fun e => by
  have e := HO.lst.inj e
  cases as with
  | nil => exact h rfl
  | cons b t =>
    cases r with
    | nil => cases e
    | cons n r => exact nomatch (List.cons.inj e).1
theorem LstAt.get {H : Hp} {l : Addr} {as : List Addr} {s : Rc94.Abs} (R : LstAt H l as s.rows) (g : Good s) {i : Int} (hi : 0 ≤ i ∧ i < 4) : ∃ b, as[i.toNat]? = some b ∧ H b = some (.lst (iv (Rc94.row s i))) := by
  have hl : i.toNat < as.length := by rw [R.len, g.four]; omega
  obtain ⟨r, h1, h2⟩ := R.row i.toNat _ (List.getElem?_eq_getElem hl)
  rw [g.at hi] at h1
  obtain rfl := Option.some.inj h1
  exact ⟨_, List.getElem?_eq_getElem hl, h2⟩
theorem ref_at {as : List Addr} {i : Int} {b : Addr} (h0 : 0 ≤ i) (h : as[i.toNat]? = some b) : atI (as.map V.ref) i = some (V.ref b) :=
  L2.at_of (j := i.toNat) (by omega) (by rw [List.getElem?_map, h]; rfl)
theorem RowsAt.set {C : Addr} {H : Hp} {p l c : Addr} {as : List Addr} {rs : List (List Nat)} {j : Nat} {r : List Nat} (R : RowsAt C H p l as rs) (ne : as ≠ []) (hj : j < rs.length) (hc : H c = some (.lst (iv r))) :
    RowsAt C (upd H l (.lst ((as.set j c).map V.ref))) p l (as.set j c) (rs.set j r) := by
  obtain ⟨dx, hp⟩ := R.obj
  have npl : p ≠ l := ne_of hp R.at_.lst (by intro q; cases q)
  refine ⟨⟨dx, by rw [upd_ne npl]; exact hp⟩, upd_same, by rw [List.length_set, List.length_set]; exact R.at_.len, fun j' b hb => ?_⟩
  by_cases h : j = j'
  · subst h
    rw [List.getElem?_set_self (by rw [R.at_.len]; exact hj)] at hb
    obtain rfl := Option.some.inj hb
    exact ⟨r, List.getElem?_set_self hj, by rw [upd_ne (Ne.symm (ne_of R.at_.lst hc (ref_iv ne)))]; exact hc⟩
  · rw [List.getElem?_set_ne h] at hb
    obtain ⟨r', h1, h2⟩ := R.at_.row j' b hb
    exact ⟨r', by rw [List.getElem?_set_ne h]; exact h1, by rw [upd_ne (Ne.symm (ne_of R.at_.lst h2 (ref_iv ne)))]; exact h2⟩
theorem LstAt.ne {H : Hp} {l : Addr} {as : List Addr} {s : Rc94.Abs} (R : LstAt H l as s.rows) (g : Good s) : as ≠ [] := fun e => by
  have h := R.len
  rw [e, g.four] at h
  cases h
def Out (C : Addr) (H : Hp) (p l : Addr) (as : List Addr) (y : Rc94.Abs × Rc94.Ans) (Q : VK) : Prop :=
  ∀ (H' : Hp) (l' q : Addr) (as' : List Addr), RowsAt C H' p l' as' y.1.rows → H' q = some (.lst ((ansOf y.2).map V.int)) → H q = none → (∀ b o, H b = some o → b ≠ p → b ≠ l → H' b = some o) → (l' = l ∨ H l' = none) → (∀ x ∈ as', x ∈ as ∨ H x = none) → Q (.ref q) H'
theorem Out.same {C : Addr} {H H1 : Hp} {p l q : Addr} {as : List Addr} {s : Rc94.Abs} {an : Rc94.Ans} {Q : VK} (k : Out C H p l as (s, an) Q) (R : RowsAt C H p l as s.rows) (sm : Same H H1) (hq : H1 q = none) :
    Q (.ref q) (upd H1 q (.lst ((ansOf an).map V.int))) :=
  k _ l q as (R.mono (sm.trans (same_new hq))) upd_same (sm.free hq) (fun b o e _ _ => (sm.trans (same_new hq)) b o e) (.inl rfl) (fun x hx => .inl hx)
theorem Out.set {C : Addr} {H H1 : Hp} {p l q c : Addr} {as : List Addr} {s : Rc94.Abs} {an : Rc94.Ans} {Q : VK} {j : Nat} {r : List Nat} (k : Out C H p l as ({ rows := s.rows.set j r }, an) Q) (R : RowsAt C H p l as s.rows) (g : Good s) (hj : j < 4) (sm : Same H H1) (hc0 : H c = none)
    (hc : H1 c = some (.lst (iv r))) {H2 : Hp} (s2 : Same (upd H1 l (.lst ((as.set j c).map V.ref))) H2) (hq : H2 q = none) : Q (.ref q) (upd H2 q (.lst ((ansOf an).map V.int))) := by
  have R1 := R.mono sm
  have R2 := R1.set (R.at_.ne g) (by rw [g.four]; exact hj) hc
  have s3 := s2.trans (same_new (o := .lst ((ansOf an).map V.int)) hq)
  have nl : l ≠ q := ne_of_none (s2 l _ upd_same) hq
  have hq1 : H1 q = none := by
    have z := s2.free hq
    rw [upd_ne (Ne.symm nl)] at z
    exact z
  refine k _ l q _ (R2.mono s3) upd_same (sm.free hq1) (fun b o e nb nb2 => s3 b o ?_) (.inl rfl) fun x hx => ?_
  · rw [upd_ne nb2]
    exact sm b o e
  · rcases List.mem_or_eq_of_mem_set hx with z | z
    · exact .inl z
    · rw [z]; exact .inr hc0
end
end Ev
end
section
set_option Elab.async false
set_option linter.all false
set_option autoImplicit false
set_option maxRecDepth 100000
set_option maxHeartbeats 4000000
namespace Ev
open PySem PySem.Spec PyProof.Rows L2
section
variable {P : Program} {w : World} {K : PySem.W.Frag} {mg : Str → Option Value} {base : Heap} {a : Ads}
def zero4 : List (List Nat) := List.replicate 4 [0]
def sp_new_rows : Sp := fun vs H Q _ => vs = [] ∧ ∀ (H' : Hp) (l : Addr) (as : List Addr), Same H H' → H l = none → LstAt H' l as zero4 → (∀ x ∈ as, H x = none) → Q (.ref l) H'
theorem sc_new_rows : FnScope ["i"] [] (defScope s_new_rows) := ⟨rfl, rfl, rfl, by decide +kernel, rfl, by decide +kernel, by decide +kernel⟩
theorem ok_new_rows (T : Txt K mg a) : FnOk P w K mg base CX0 1 a.new_rows.a a.new_rows.d [] sp_new_rows := by
  refine T.new_rows.F.ok sc_new_rows (fun vs H Q E h => ?_) (fun cdv A outer s H vs Q E hr h => ?_)
  · obtain ⟨rfl, _⟩ := h
    rfl
  · obtain ⟨rfl, k⟩ := h
    refine ⟨_, pss_one (ps_ret (pe_lc (own := [("i", 0)]) rfl sc_new_rows.nd (pi_range1 rfl T.range (pa_cons (gl_int T.gROWS) pa_nil)) (blkOk_by (show blkC ["i"] (defScope s_new_rows) { kind := .function, names := [(".0", .local), ("i", .local)], isGenerator := false, isCoroutine := false } [("i", 0)] = true from by decide +kernel))
      (fun _ _ _ _ _ => pg_name (i := 0) sc_new_rows.nd rfl (Or.inl rfl)) (fun _ _ _ _ _ => pts_nil) (fun _ _ _ _ _ => pe_lst (pa_cons pe_int pa_nil)))), ?_⟩
    refine ⟨4, rfl, by decide, by decide, fun D hD => lc_range (lo := 0) (n := 4) (fun i H' => ∃ as : List Addr, as.length = i ∧ H' D = some (.lst (as.map V.ref)) ∧ Same H H' ∧ (∀ b ∈ as, H' b = some (.lst (iv [0]))) ∧ ∀ b ∈ as, H b = none)
      ⟨[], rfl, upd_same, same_new hD, (fun b hb => nomatch hb), fun b hb => nomatch hb⟩ ?_ ?_⟩
    · rintro i H' hi ⟨as, el, hl, sm, hb, hf⟩
      refine ⟨rfl, (by show 1 ≤ sizeLine; decide), fun p hp => ?_⟩
      have sn : Same H' (upd H' p (.lst (iv [0]))) := same_new hp
      have npD : D ≠ p := ne_of_none hl hp
      refine ⟨as.map V.ref, sn _ _ hl, by rw [List.length_map, el]; exact Nat.lt_of_lt_of_le hi (by decide), as ++ [p], by rw [List.length_append, el]; rfl, ?_, fun b o e => ?_, fun b hb' => ?_, fun b hb' => ?_⟩
      · rw [upd_same, List.map_append]
        rfl
      · rw [upd_ne (ne_of_none e hD)]
        exact sn _ _ (sm b o e)
      · rcases List.mem_append.mp hb' with q | q
        · have z := hb b q
          rw [upd_ne (Ne.symm (ne_of hl z (by
            cases as with
            | nil => exact nomatch q
            | cons c t => exact ref_iv (by simp))))]
          exact sn _ _ z
        · obtain rfl := List.mem_singleton.mp q
          rw [upd_ne (Ne.symm npD)]
          exact upd_same
      · rcases List.mem_append.mp hb' with q | q
        · exact hf b q
        · rw [List.mem_singleton.mp q]
          exact sm.free hp
    · rintro H' ⟨as, el, hl, sm, hb, hf⟩
      refine k H' D as sm hD ⟨hl, el, fun j b h => ⟨[0], ?_, hb b (List.mem_of_getElem? h)⟩⟩ hf
      have hj : j < 4 := by
        have := (List.getElem?_eq_some_iff.mp h).1
        omega
      unfold zero4
      rw [List.getElem?_replicate, if_pos hj]
def sp_init (C : Addr) : Sp := fun vs H Q _ => ∃ p dx, vs = [.ref p] ∧ H p = some (.ins C dx []) ∧ ∀ (H' : Hp) (l : Addr) (as : List Addr), RowsAt C H' p l as zero4 → H l = none → (∀ b o, H b = some o → b ≠ p → H' b = some o) → Q .non H'
theorem sc_init : FnScope ["self"] ["self"] (defScope s_init) := ⟨rfl, rfl, rfl, by decide +kernel, rfl, by decide +kernel, by decide +kernel⟩
theorem ok_init (T : Txt K mg a) : FnOk P w K mg base CX0 2 a.init.a a.init.d ["self"] (sp_init a.C) := by
  have G : FnOk P w K mg base CX0 1 a.new_rows.a a.new_rows.d [] sp_new_rows := ok_new_rows T
  refine T.init.F.ok sc_init (fun vs H Q E h => ?_) (fun cdv A outer s H vs Q E hr h => ?_)
  · obtain ⟨p, dx, rfl, _⟩ := h
    rfl
  · obtain ⟨p, dx, rfl, hp, k⟩ := h
    refine ⟨_, pss_one (ps_fld (pv 0) (pe_call0 G hr rfl T.new_rows.m T.new_rows.k T.new_rows.b .nil pass0) rfl), ?_⟩
    refine ⟨rfl, fun H' l as sm hl R hf => ⟨_, rfl, p, a.C, dx, [], rfl, sm _ _ hp, T.cl, T.nR, (by show 0 < 1000; decide), ?_⟩⟩
    have npl : l ≠ p := Ne.symm (ne_of_none hp hl)
    refine k _ l as ⟨⟨dx, upd_same⟩, by rw [upd_ne npl]; exact R.lst, R.len, fun j b h => ?_⟩ hl fun b o e hb => by rw [upd_ne hb]; exact sm b o e
    obtain ⟨r, h1, h2⟩ := R.row j b h
    exact ⟨r, h1, by rw [upd_ne (ne_of h2 (sm _ _ hp) (by intro q; cases q))]; exact h2⟩
def sp_begin (C : Addr) : Sp := fun vs H Q _ => ∃ (p l : Addr) (as : List Addr) (s : Rc94.Abs), vs = [.ref p] ∧ RowsAt C H p l as s.rows ∧ Good s ∧ Out C H p l as (Rc94.does s .init) Q
theorem sc_begin : FnScope ["self"] ["self"] (defScope s_begin) := ⟨rfl, rfl, rfl, by decide +kernel, rfl, by decide +kernel, by decide +kernel⟩
theorem ok_begin (T : Txt K mg a) : FnOk P w K mg base CX0 2 a.begin.a a.begin.d ["self"] (sp_begin a.C) := by
  have G : FnOk P w K mg base CX0 1 a.new_rows.a a.new_rows.d [] sp_new_rows := ok_new_rows T
  refine T.begin.F.ok sc_begin (fun vs H Q E h => ?_) (fun cdv A outer s H vs Q E hr h => ?_)
  · obtain ⟨p, l, as, s, rfl, _⟩ := h
    rfl
  · obtain ⟨p, l, as, s, rfl, R, g, k⟩ := h
    obtain ⟨dx, hp⟩ := R.obj
    refine ⟨_, pss_cons (ps_fld (pv 0) (pe_call0 G hr rfl T.new_rows.m T.new_rows.k T.new_rows.b .nil pass0) rfl) (pss_one (ps_ret (pe_lst (pa_cons pe_int pa_nil)))), ?_⟩
    refine ⟨rfl, fun H' l' as' sm hl' R' hf => ⟨_, rfl, p, a.C, dx, _, rfl, sm _ _ hp, T.cl, T.nR, (by show 1 < 1000; decide), by show 1 ≤ sizeLine; decide, fun q hq => ?_⟩⟩
    have npl : l' ≠ p := Ne.symm (ne_of_none hp hl')
    have nqp : q ≠ p := Ne.symm (ne_of_none upd_same hq)
    have hq' : H' q = none := by
      rw [upd_ne nqp] at hq
      exact hq
    have eo : upd H' p (.ins a.C dx (putF "rows" (.ref l') (fl l))) p = some (.ins a.C dx (fl l')) := by
      rw [upd_same, fl_put]
    refine k _ l' q as' ⟨⟨dx, by rw [upd_ne (Ne.symm nqp)]; exact eo⟩, ?_, R'.len, fun j b h => ?_⟩ upd_same (sm.free hq') (fun b o e nb _ => ?_) (.inr hl') (fun x hx => .inr (hf x hx))
    · rw [upd_ne (ne_of_none R'.lst hq'), upd_ne npl]
      exact R'.lst
    · obtain ⟨r, h1, h2⟩ := R'.row j b h
      exact ⟨r, h1, by rw [upd_ne (ne_of_none h2 hq'), upd_ne (ne_of h2 (sm _ _ hp) (by intro q; cases q))]; exact h2⟩
    · rw [upd_ne (ne_of_none (sm b o e) hq'), upd_ne nb]
      exact sm b o e
def sp_put (K : PySem.W.Frag) (C : Addr) : Sp := fun vs H Q _ => ∃ (p l : Addr) (as : List Addr) (s : Rc94.Abs) (i : Int) (b : Addr) (r : List Nat), vs = [.ref p, .int i, .ref b] ∧ RowsAt C H p l as s.rows ∧ Good s ∧ SqL K H b (iv r) ∧ r.length ≤ 12 ∧
  Out C H p l as (Rc94.does s (.row i r ((r.length : Nat) : Int))) Q
theorem sc_put : FnScope ["self", "i", "numbers"] ["self", "i", "numbers"] (defScope s_put) := ⟨rfl, rfl, rfl, by decide +kernel, rfl, by decide +kernel, by decide +kernel⟩
theorem does_row (s : Rc94.Abs) (i : Int) (r : List Nat) : Rc94.does s (.row i r ((r.length : Nat) : Int)) =
    if Rc94.below i 4 = true ∧ (1 ≤ r.length ∧ r.length ≤ 12 ∧ ∀ x ∈ r, x ≤ 1000) then ({ rows := s.rows.set i.toNat r }, { value := ((r.length : Nat) : Int) }) else (s, Rc94.refused) := by
  show (if (Rc94.below i Rc94.ROWS && (Rc94.between ((r.length : Nat) : Int) 1 Rc94.LONG && (r.length == ((r.length : Nat) : Int).toNat && r.all fun x => decide (x ≤ Rc94.HIGH)))) = false then _ else _) = _
  by_cases h : Rc94.below i 4 = true ∧ (1 ≤ r.length ∧ r.length ≤ 12 ∧ ∀ x ∈ r, x ≤ 1000)
  · rw [if_pos h, if_neg]
    rw [Bool.not_eq_false, Bool.and_eq_true, Bool.and_eq_true, Bool.and_eq_true]
    refine ⟨h.1, ?_, by simp, List.all_eq_true.mpr fun x hx => decide_eq_true (h.2.2.2 x hx)⟩
    unfold Rc94.between Rc94.LONG
    rw [Bool.and_eq_true, decide_eq_true_iff, decide_eq_true_iff]
    omega
  · rw [if_neg h, if_pos]
    cases e : (Rc94.below i Rc94.ROWS && (Rc94.between ((r.length : Nat) : Int) 1 Rc94.LONG && (r.length == ((r.length : Nat) : Int).toNat && r.all fun x => decide (x ≤ Rc94.HIGH)))) with
    | false => rfl
    | true =>
      rw [Bool.and_eq_true, Bool.and_eq_true, Bool.and_eq_true] at e
      refine absurd ⟨e.1, ?_⟩ h
      have hb := e.2.1
      unfold Rc94.between Rc94.LONG at hb
      rw [Bool.and_eq_true, decide_eq_true_iff, decide_eq_true_iff] at hb
      exact ⟨by omega, by omega, fun x hx => of_decide_eq_true (List.all_eq_true.mp e.2.2.2 x hx)⟩
theorem ok_put (T : Txt K mg a) : FnOk P w K mg base CX0 2 a.put.a a.put.d ["self", "i", "numbers"] (sp_put K a.C) := by
  have G1 : FnOk P w K mg base CX0 1 a.is_row_number.a a.is_row_number.d ["i"] sp_is_row_number := ok_is_row_number T
  have G2 : FnOk P w K mg base CX0 1 a.is_row.a a.is_row.d ["numbers"] (sp_is_row K) := ok_is_row T
  refine T.put.F.ok sc_put (fun vs H Q E h => ?_) (fun cdv A outer s H vs Q E hr h => ?_)
  · obtain ⟨p, l, as, s, i, b, r, rfl, _⟩ := h
    rfl
  · obtain ⟨p, l, as, s, i, b, r, rfl, R, g, hb, h12, k⟩ := h
    obtain ⟨dx, hp⟩ := R.obj
    refine ⟨_, pss_cons (ps_if (PW.pt (pw_or (pt_not (pt_val (pe_call G1 hr rfl T.is_row_number.m T.is_row_number.k T.is_row_number.b .nil pass0 (pa_cons (pv 1) pa_nil)))) (pw_or1 (pt_not (pt_val (pe_call G2 hr rfl T.is_row.m T.is_row.k T.is_row.b .nil pass0 (pa_cons (pv 2) pa_nil))))))) (pss_one (ps_ret (pe_lst (pa_cons (gl_int T.gOUTSIDE) pa_nil)))) pss_nil)
      (pss_cons (ps_asg (pe_callTy call_list_of (by rfl) T.list boot_list (pa_cons (pv 2) pa_nil)) (pg_sub (pe_fld (pv 0) rfl) (pv 1) set_list))
      (pss_one (ps_ret (pe_lst (pa_cons (pe_callB call_len_seq (by rfl) T.len PySem.boot_len (pa_cons (pv 2) pa_nil)) pa_nil))))), ?_⟩
    rw [does_row] at k
    refine ⟨_, rfl, i, rfl, _, rfl, ite2 (fun q => ?_) (fun q => ?_)⟩
    · rw [if_neg (fun z => by rw [z.1] at q; cases q)] at k
      exact iteT ⟨by show 1 ≤ sizeLine; decide, fun q hq => k.same R (Same.refl H) hq⟩
    · have hi : Rc94.below i 4 = true := by
        cases e : Rc94.below i 4 with
        | true => rfl
        | false => rw [e] at q; exact absurd rfl q
      obtain ⟨i0, i1⟩ := below4 hi
      refine ⟨_, rfl, b, r, rfl, hb, _, rfl, ite2 (fun q => ?_) (fun q => ?_)⟩
      · have hn : ¬ (1 ≤ r.length ∧ r.length ≤ 12 ∧ ∀ x ∈ r, x ≤ 1000) := fun z => by
          rw [decide_eq_true z] at q
          cases q
        rw [if_neg fun z => hn z.2] at k
        exact ⟨by show 1 ≤ sizeLine; decide, fun q hq => k.same R (Same.refl H) hq⟩
      · have hy : 1 ≤ r.length ∧ r.length ≤ 12 ∧ ∀ x ∈ r, x ≤ 1000 := by
          refine of_decide_eq_true ?_
          cases e : decide (1 ≤ r.length ∧ r.length ≤ 12 ∧ ∀ x ∈ r, x ≤ 1000) with
          | true => rfl
          | false => rw [e] at q; exact absurd rfl q
        rw [if_pos ⟨hi, hy⟩] at k
        refine ⟨_, rfl, b, _, rfl, .inl hb, fun c hc => ?_⟩
        have sm : Same H (upd H c (.lst (iv r))) := same_new hc
        have hl := (R.mono sm).at_.lst
        have hal : as.length = 4 := by rw [R.at_.len, g.four]
        refine ⟨_, rfl, p, a.C, dx, _, _, rfl, sm _ _ hp, T.cl, T.nR, fl_rows l, _, rfl, l, _, i, i.toNat, rfl, rfl, hl, ixN_of i0 (by rw [List.length_map, hal]; exact i1), ?_⟩
        have nbl : b ≠ c ∨ True := .inr trivial
        have hset : (as.map V.ref).set i.toNat (V.ref c) = (as.set i.toNat c).map V.ref := List.map_set.symm
        rw [hset]
        have hb2 : SqL K (upd (upd H c (.lst (iv r))) l (.lst ((as.set i.toNat c).map V.ref))) b (iv r) := by
          rcases hb with (hb | ⟨o, hb⟩) | hb
          · exact .inl (.inl (by rw [upd_ne (Ne.symm (ne_of R.at_.lst hb (ref_iv (R.at_.ne g))))]; exact sm _ _ hb))
          · exact .inl (.inr ⟨o, by rw [upd_ne (Ne.symm (ne_of R.at_.lst hb (by intro q; cases q)))]; exact sm _ _ hb⟩)
          · exact .inr hb
        refine ⟨_, rfl, b, _, rfl, .inl hb2, by show 1 ≤ sizeLine; decide, fun q hq => ?_⟩
        have e := k.set R g (by omega) sm hc upd_same (Same.refl _) hq
        have el : (ansOf { value := ((r.length : Nat) : Int) }).map V.int = [V.int ((iv r).length : Int)] := by
          rw [iv_len]
          rfl
        rw [el] at e
        exact e
def sp_tell_sorted (C : Addr) : Sp := fun vs H Q _ => ∃ (p l : Addr) (as : List Addr) (s : Rc94.Abs) (i m : Int), vs = [.ref p, .int i, .int m] ∧ RowsAt C H p l as s.rows ∧ Good s ∧ Out C H p l as (Rc94.does s (.sorted i m)) Q
theorem sc_tell_sorted : FnScope ["self", "i", "most", "row"] ["self", "i", "most"] (defScope s_tell_sorted) := ⟨rfl, rfl, rfl, by decide +kernel, rfl, by decide +kernel, by decide +kernel⟩
theorem not_below {i : Int} {n : Nat} (h : (!Rc94.below i n) = true) : Rc94.below i n = false := by simpa using h
theorem is_below {i : Int} {n : Nat} (h : ¬ (!Rc94.below i n) = true) : Rc94.below i n = true := by simpa using h
theorem RowOk.lt64 {r : List Nat} (h : RowOk r) : r.length < 64 := Nat.lt_of_le_of_lt h.len (by decide)
theorem ok_tell_sorted (T : Txt K mg a) : FnOk P w K mg base CX0 2 a.tell_sorted.a a.tell_sorted.d ["self", "i", "most"] (sp_tell_sorted a.C) := by
  have G1 : FnOk P w K mg base CX0 1 a.is_row_number.a a.is_row_number.d ["i"] sp_is_row_number := ok_is_row_number T
  have G2 : FnOk P w K mg base CX0 1 a.greatest_first.a a.greatest_first.d ["row"] (sp_greatest_first K) := ok_greatest_first T
  have G3 : FnOk P w K mg base CX0 1 a.first_of.a a.first_of.d ["told", "most"] (sp_first_of K) := ok_first_of T
  refine T.tell_sorted.F.ok sc_tell_sorted (fun vs H Q E h => ?_) (fun cdv A outer s H vs Q E hr h => ?_)
  · obtain ⟨p, l, as, s, i, m, rfl, _⟩ := h
    rfl
  · obtain ⟨p, l, as, s, i, m, rfl, R, g, k⟩ := h
    obtain ⟨dx, hp⟩ := R.obj
    refine ⟨_, pss_cons (ps_if (pt_not (pt_val (pe_call G1 hr rfl T.is_row_number.m T.is_row_number.k T.is_row_number.b .nil pass0 (pa_cons (pv 1) pa_nil)))) (pss_one (ps_ret (pe_lst (pa_cons (gl_int T.gOUTSIDE) pa_nil)))) pss_nil)
      (pss_cons (ps_set (i := 3) sc_tell_sorted.nd rfl (Or.inl rfl) (pe_ix ix_list (pe_fld (pv 0) rfl) (pv 1) (fun _ _ => rfl)))
      (pss_one (ps_ret (pe_op op_cat (pe_lst (pa_cons (pe_callB call_len_seq (by rfl) T.len PySem.boot_len (pa_cons (pv 3) pa_nil)) pa_nil)) (pe_call G3 hr rfl T.first_of.m T.first_of.k T.first_of.b .nil pass0 (pa_cons (pe_call G2 hr rfl T.greatest_first.m T.greatest_first.k T.greatest_first.b .nil pass0 (pa_cons (pv 3) pa_nil)) (pa_cons (pv 2) pa_nil))))))), ?_⟩
    have k : Out a.C H p l as (if Rc94.below i 4 = false then (s, Rc94.refused) else (s, { value := (((Rc94.row s i).length : Nat) : Int), numbers := (Rc94.sorted (Rc94.row s i)).take (Rc94.room_ m 12) })) Q := k
    refine ⟨_, rfl, i, rfl, _, rfl, ite2 (fun q => ?_) (fun q => ?_)⟩
    · rw [if_pos (not_below q)] at k
      exact ⟨by show 1 ≤ sizeLine; decide, fun q hq => k.same R (Same.refl H) hq⟩
    · have hi := is_below q
      rw [if_neg (by rw [hi]; decide)] at k
      have hi4 := below4 hi
      obtain ⟨b, hb1, hb2⟩ := R.at_.get g hi4
      refine ⟨_, rfl, p, a.C, dx, _, _, rfl, hp, T.cl, T.nR, fl_rows l, _, rfl, l, _, i, _, rfl, rfl, SqL.of R.at_.lst, ref_at hi4.1 hb1, ?_⟩
      refine ⟨_, rfl, b, _, rfl, .inl (SqL.of hb2), by show 1 ≤ sizeLine; decide, fun c hc => ?_⟩
      have s1 : Same H (upd H c (.lst [V.int ((iv (Rc94.row s i)).length : Int)])) := same_new hc
      refine ⟨_, rfl, b, _, rfl, SqL.of (s1 _ _ hb2), (g.ok hi4).lt64, fun d hd => ?_⟩
      have s2 := s1.trans (same_new (o := .lst (iv (Rc94.sorted (Rc94.row s i)))) hd)
      refine ⟨_, rfl, d, _, m, rfl, SqL.of upd_same, fun e he => ?_⟩
      have s3 := s2.trans (same_new (o := .lst ((iv (Rc94.sorted (Rc94.row s i))).take (Rc94.room_ m 12))) he)
      have hc3 : (upd (upd (upd H c (.lst [V.int ((iv (Rc94.row s i)).length : Int)])) d (.lst (iv (Rc94.sorted (Rc94.row s i))))) e (.lst ((iv (Rc94.sorted (Rc94.row s i))).take (Rc94.room_ m 12)))) c = some (.lst [V.int ((iv (Rc94.row s i)).length : Int)]) :=
        (same_new he) _ _ ((same_new hd) _ _ upd_same)
      have hlen : ([V.int ((iv (Rc94.row s i)).length : Int)] : List V).length + ((iv (Rc94.sorted (Rc94.row s i))).take (Rc94.room_ m 12)).length ≤ sizeLine := by
        have h1 := (g.ok hi4).len
        have h2 : ((iv (Rc94.sorted (Rc94.row s i))).take (Rc94.room_ m 12)).length ≤ 12 := by
          rw [List.length_take, iv_len, sorted_len]
          omega
        have h3 : sizeLine = 16777216 := sizeLine_eq
        show 1 + _ ≤ _
        omega
      refine ⟨c, e, _, _, rfl, rfl, hc3, upd_same, hlen, fun q hq => ?_⟩
      have z := k.same R s3 hq
      have el : (ansOf { value := (((Rc94.row s i).length : Nat) : Int), numbers := (Rc94.sorted (Rc94.row s i)).take (Rc94.room_ m 12) }).map V.int = [V.int ((iv (Rc94.row s i)).length : Int)] ++ (iv (Rc94.sorted (Rc94.row s i))).take (Rc94.room_ m 12) := by
        rw [iv_len]
        show V.int _ :: (((Rc94.sorted (Rc94.row s i)).take (Rc94.room_ m 12)).map _).map V.int = V.int _ :: _
        rw [List.map_take, List.map_take]
        rfl
      rw [el] at z
      exact z
end
end Ev
end
section
set_option Elab.async false
set_option linter.all false
set_option autoImplicit false
set_option maxRecDepth 100000
set_option maxHeartbeats 4000000
namespace Ev
open PySem PySem.Spec PyProof.Rows L2
section
variable {P : Program} {w : World} {K : PySem.W.Frag} {mg : Str → Option Value} {base : Heap} {a : Ads}
def sp_compare (C : Addr) : Sp := fun vs H Q _ => ∃ (p l : Addr) (as : List Addr) (s : Rc94.Abs) (i j : Int), vs = [.ref p, .int i, .int j] ∧ RowsAt C H p l as s.rows ∧ Good s ∧ Out C H p l as (Rc94.does s (.over i j)) Q
theorem sc_compare : FnScope ["self", "i", "j", "first", "second"] ["self", "i", "j"] (defScope s_compare) := ⟨rfl, rfl, rfl, by decide +kernel, rfl, by decide +kernel, by decide +kernel⟩
theorem and_false {b c : Bool} (h : b = false) : (b && c) = false := by rw [h]; rfl
theorem nott {b : Bool} (h : (!b) = true) : b = false := by simpa using h
theorem ntt {b : Bool} (h : ¬ (!b) = true) : b = true := by simpa using h
theorem ok_compare (T : Txt K mg a) : FnOk P w K mg base CX0 3 a.compare.a a.compare.d ["self", "i", "j"] (sp_compare a.C) := by
  have G1 : FnOk P w K mg base CX0 2 a.are_row_numbers.a a.are_row_numbers.d ["i", "j"] sp_are_row_numbers := ok_are_row_numbers T
  have G2 : FnOk P w K mg base CX0 2 a.is_over.a a.is_over.d ["first", "second"] (sp_is_over K) := ok_is_over T
  refine T.compare.F.ok sc_compare (fun vs H Q E h => ?_) (fun cdv A outer s H vs Q E hr h => ?_)
  · obtain ⟨p, l, as, s, i, j, rfl, _⟩ := h
    rfl
  · obtain ⟨p, l, as, s, i, j, rfl, R, g, k⟩ := h
    obtain ⟨dx, hp⟩ := R.obj
    refine ⟨_, pss_cons (ps_if (pt_not (pt_val (pe_call G1 hr rfl T.are_row_numbers.m T.are_row_numbers.k T.are_row_numbers.b .nil pass0 (pa_cons (pv 1) (pa_cons (pv 2) pa_nil))))) (pss_one (ps_ret (pe_lst (pa_cons (gl_int T.gOUTSIDE) pa_nil)))) pss_nil)
      (pss_cons (ps_set (i := 3) sc_compare.nd rfl (Or.inl rfl) (pe_pick (pt_val (pe_call G2 hr rfl T.is_over.m T.is_over.k T.is_over.b .nil pass0 (pa_cons (pe_ix ix_list (pe_fld (pv 0) rfl) (pv 1) (fun _ _ => rfl)) (pa_cons (pe_ix ix_list (pe_fld (pv 0) rfl) (pv 2) (fun _ _ => rfl)) pa_nil))))))
      (pss_cons (ps_set (i := 4) sc_compare.nd rfl (Or.inl rfl) (pe_pick (pt_val (pe_call G2 hr rfl T.is_over.m T.is_over.k T.is_over.b .nil pass0 (pa_cons (pe_ix ix_list (pe_fld (pv 0) rfl) (pv 2) (fun _ _ => rfl)) (pa_cons (pe_ix ix_list (pe_fld (pv 0) rfl) (pv 1) (fun _ _ => rfl)) pa_nil))))))
      (pss_one (ps_ret (pe_lst (pa_cons (pe_op op_add (pv 3) (pv 4)) pa_nil)))))), ?_⟩
    have k : Out a.C H p l as (if (Rc94.below i 4 && Rc94.below j 4) = false then (s, Rc94.refused) else (s, { value := ((Rc94.bit (Rc94.over (Rc94.row s i) (Rc94.row s j)) + 2 * Rc94.bit (Rc94.over (Rc94.row s j) (Rc94.row s i)) : Nat) : Int) })) Q := k
    refine ⟨_, rfl, _, rfl, i, j, rfl, _, rfl, ite2 (fun q => ?_) (fun q => ?_)⟩
    · rw [if_pos (nott q)] at k
      exact ⟨by show 1 ≤ sizeLine; decide, fun q hq => k.same R (Same.refl H) hq⟩
    · have q := ntt q
      rw [if_neg (by rw [q]; decide)] at k
      rw [Bool.and_eq_true] at q
      have hi4 := below4 q.1
      have hj4 := below4 q.2
      obtain ⟨b, hb1, hb2⟩ := R.at_.get g hi4
      obtain ⟨c, hc1, hc2⟩ := R.at_.get g hj4
      refine ⟨_, rfl, p, a.C, dx, _, _, rfl, hp, T.cl, T.nR, fl_rows l, _, rfl, l, _, i, _, rfl, rfl, SqL.of R.at_.lst, ref_at hi4.1 hb1, _, rfl, p, a.C, dx, _, _, rfl, hp, T.cl, T.nR, fl_rows l, _, rfl, l, _, j, _, rfl, rfl, SqL.of R.at_.lst, ref_at hj4.1 hc1,
        b, c, _, _, rfl, SqL.of hb2, SqL.of hc2, (g.ok hi4).lt64, (g.ok hj4).lt64, fun H1 s1 => ⟨_, rfl, ?_⟩⟩
      refine ⟨_, rfl, p, a.C, dx, _, _, rfl, s1 _ _ hp, T.cl, T.nR, fl_rows l, _, rfl, l, _, j, _, rfl, rfl, SqL.of (s1 _ _ R.at_.lst), ref_at hj4.1 hc1, _, rfl, p, a.C, dx, _, _, rfl, s1 _ _ hp, T.cl, T.nR, fl_rows l, _, rfl, l, _, i, _, rfl, rfl, SqL.of (s1 _ _ R.at_.lst), ref_at hi4.1 hb1,
        c, b, _, _, rfl, SqL.of (s1 _ _ hc2), SqL.of (s1 _ _ hb2), (g.ok hj4).lt64, (g.ok hi4).lt64, fun H2 s2 => ⟨_, rfl, ?_⟩⟩
      refine ⟨_, rfl, _, rfl, _, _, rfl, rfl, by show 1 ≤ sizeLine; decide, fun q hq => ?_⟩
      have z := k.same R (s1.trans s2) hq
      have el : (ansOf { value := ((Rc94.bit (Rc94.over (Rc94.row s i) (Rc94.row s j)) + 2 * Rc94.bit (Rc94.over (Rc94.row s j) (Rc94.row s i)) : Nat) : Int) }).map V.int = [V.int ((if Rc94.over (Rc94.row s i) (Rc94.row s j) = true then (1 : Int) else 0) + (if Rc94.over (Rc94.row s j) (Rc94.row s i) = true then (2 : Int) else 0))] := by
        cases Rc94.over (Rc94.row s i) (Rc94.row s j) <;> cases Rc94.over (Rc94.row s j) (Rc94.row s i) <;> rfl
      rw [el] at z
      exact z
def sp_move (C : Addr) : Sp := fun vs H Q _ => ∃ (p l : Addr) (as : List Addr) (s : Rc94.Abs) (i x y n : Int), vs = [.ref p, .int i, .int x, .int y, .int n] ∧ RowsAt C H p l as s.rows ∧ Good s ∧ Out C H p l as (Rc94.does s (.move i x y n)) Q
theorem sc_move : FnScope ["self", "i", "p", "q", "a", "before", "after"] ["self", "i", "p", "q", "a"] (defScope s_move) := ⟨rfl, rfl, rfl, by decide +kernel, rfl, by decide +kernel, by decide +kernel⟩
theorem ok_move (T : Txt K mg a) : FnOk P w K mg base CX0 3 a.move.a a.move.d ["self", "i", "p", "q", "a"] (sp_move a.C) := by
  have G1 : FnOk P w K mg base CX0 1 a.is_row_number.a a.is_row_number.d ["i"] sp_is_row_number := ok_is_row_number T
  have G2 : FnOk P w K mg base CX0 2 a.may_take.a a.may_take.d ["row", "p", "q", "a"] (sp_may_take K) := ok_may_take T
  have G3 : FnOk P w K mg base CX0 2 a.is_over.a a.is_over.d ["first", "second"] (sp_is_over K) := ok_is_over T
  have G4 : FnOk P w K mg base CX0 1 a.with_moved.a a.with_moved.d ["row", "p", "q", "a"] sp_with_moved := ok_with_moved T
  refine T.move.F.ok sc_move (fun vs H Q E h => ?_) (fun cdv A outer s H vs Q E hr h => ?_)
  · obtain ⟨p, l, as, s, i, x, y, n, rfl, _⟩ := h
    rfl
  · obtain ⟨p, l, as, s, i, x, y, n, rfl, R, g, k⟩ := h
    obtain ⟨dx, hp⟩ := R.obj
    have hr1 : Room 1 _ := hr.mono (by decide)
    refine ⟨_, pss_cons (ps_if (PW.pt (pw_or (pt_not (pt_val (pe_call G1 hr1 rfl T.is_row_number.m T.is_row_number.k T.is_row_number.b .nil pass0 (pa_cons (pv 1) pa_nil)))) (pw_or1 (pt_not (pt_val (pe_call G2 hr rfl T.may_take.m T.may_take.k T.may_take.b .nil pass0 (pa_cons (pe_ix ix_list (pe_fld (pv 0) rfl) (pv 1) (fun _ _ => rfl)) (pa_cons (pv 2) (pa_cons (pv 3) (pa_cons (pv 4) pa_nil)))))))))) (pss_one (ps_ret (pe_lst (pa_cons (gl_int T.gOUTSIDE) pa_nil)))) pss_nil)
      (pss_cons (ps_set (i := 5) sc_move.nd rfl (Or.inl rfl) (pe_ix ix_list (pe_fld (pv 0) rfl) (pv 1) (fun _ _ => rfl)))
      (pss_cons (ps_if (pt_cmpR op_gt (pe_op op_add (pe_ix ix_list (pv 5) (pv 3) (fun _ _ => rfl)) (pv 4)) (gl_int T.gGREATEST) (nomark _)) (pss_one (ps_ret (pe_lst (pa_cons (gl_int T.gTOO_MUCH) pa_nil)))) pss_nil)
      (pss_cons (ps_set (i := 6) sc_move.nd rfl (Or.inl rfl) (pe_call G4 hr1 rfl T.with_moved.m T.with_moved.k T.with_moved.b .nil pass0 (pa_cons (pv 5) (pa_cons (pv 2) (pa_cons (pv 3) (pa_cons (pv 4) pa_nil))))))
      (pss_cons (ps_asg (pv 6) (pg_sub (pe_fld (pv 0) rfl) (pv 1) set_list))
      (pss_one (ps_ret (pe_lst (pa_cons (pe_pick (pt_val (pe_call G3 hr rfl T.is_over.m T.is_over.k T.is_over.b .nil pass0 (pa_cons (pv 5) (pa_cons (pv 6) pa_nil))))) pa_nil)))))))), ?_⟩
    have k : Out a.C H p l as (if (Rc94.below i 4 && (Rc94.below x (Rc94.row s i).length && (Rc94.below y (Rc94.row s i).length && (x != y && Rc94.between n 0 (Rc94.at_ (Rc94.row s i) x.toNat))))) = false then (s, Rc94.refused)
      else if 1000 < Rc94.at_ (Rc94.row s i) y.toNat + n.toNat then (s, { value := -2 }) else
        ({ rows := s.rows.set i.toNat (Rc94.moved (Rc94.row s i) x.toNat y.toNat n.toNat) }, { value := ((Rc94.bit (Rc94.over (Rc94.row s i) (Rc94.moved (Rc94.row s i) x.toNat y.toNat n.toNat)) : Nat) : Int) })) Q := k
    refine ⟨_, rfl, i, rfl, _, rfl, ite2 (fun q => ?_) (fun q => ?_)⟩
    · rw [if_pos (and_false (not_below q))] at k
      exact iteT ⟨by show 1 ≤ sizeLine; decide, fun q hq => k.same R (Same.refl H) hq⟩
    · have hi := is_below q
      have hi4 := below4 hi
      obtain ⟨b, hb1, hb2⟩ := R.at_.get g hi4
      rw [hi, Bool.true_and] at k
      refine ⟨_, rfl, p, a.C, dx, _, _, rfl, hp, T.cl, T.nR, fl_rows l, _, rfl, l, _, i, _, rfl, rfl, SqL.of R.at_.lst, ref_at hi4.1 hb1, _, rfl, _, rfl, _, rfl, b, _, x, y, n, rfl, SqL.of hb2, _, rfl, ite2 (fun q => ?_) (fun q => ?_)⟩
      · rw [if_pos (Bool.not_eq_true' _ ▸ q)] at k
        exact ⟨by show 1 ≤ sizeLine; decide, fun q hq => k.same R (Same.refl H) hq⟩
      · rw [Bool.not_eq_true', Bool.not_eq_false] at q
        rw [if_neg (by rw [q]; decide)] at k
        rw [Bool.and_eq_true, Bool.and_eq_true, Bool.and_eq_true] at q
        obtain ⟨hx, hy, hxy, hn⟩ := q
        have hx := below4_iff.mp hx
        have hy := below4_iff.mp hy
        have hxy : x ≠ y := by simpa using hxy
        unfold Rc94.between at hn
        rw [Bool.and_eq_true, decide_eq_true_iff, decide_eq_true_iff] at hn
        obtain ⟨u, hu⟩ : ∃ u, (Rc94.row s i)[x.toNat]? = some u := ⟨_, List.getElem?_eq_getElem (by omega)⟩
        obtain ⟨v, hv⟩ : ∃ v, (Rc94.row s i)[y.toNat]? = some v := ⟨_, List.getElem?_eq_getElem (by omega)⟩
        rw [at_of hu] at hn
        rw [at_of hv] at k
        obtain ⟨n', rfl⟩ : ∃ n' : Nat, n = (n' : Int) := ⟨n.toNat, by omega⟩
        rw [Int.toNat_natCast] at k
        refine ⟨_, rfl, p, a.C, dx, _, _, rfl, hp, T.cl, T.nR, fl_rows l, _, rfl, l, _, i, _, rfl, rfl, SqL.of R.at_.lst, ref_at hi4.1 hb1, ?_⟩
        refine ⟨_, rfl, _, rfl, b, _, y, _, rfl, rfl, SqL.of hb2, iv_ix hy.1 hv, _, rfl, _, _, rfl, rfl, _, _, rfl, rfl, _, rfl, ite2 (fun q => ?_) (fun q => ?_)⟩
        · have q := of_decide_eq_true q
          rw [if_pos (by omega)] at k
          exact ⟨by show 1 ≤ sizeLine; decide, fun q hq => k.same R (Same.refl H) hq⟩
        · have q : ¬ (1000 : Int) < (v : Int) + (n' : Int) := fun z => q (decide_eq_true z)
          rw [if_neg (by omega)] at k
          obtain ⟨x', rfl⟩ : ∃ x' : Nat, x = (x' : Int) := ⟨x.toNat, by omega⟩
          obtain ⟨y', rfl⟩ : ∃ y' : Nat, y = (y' : Int) := ⟨y.toNat, by omega⟩
          rw [Int.toNat_natCast] at hu hv
          rw [Int.toNat_natCast, Int.toNat_natCast] at k
          refine ⟨_, rfl, _, rfl, _, rfl, _, rfl, b, Rc94.row s i, x', y', n', rfl, hb2, by omega, by omega, by omega, by rw [at_of hu]; omega, fun c hc => ?_⟩
          have s2 : Same H (upd H c (.lst (iv (Rc94.moved (Rc94.row s i) x' y' n')))) := same_new hc
          have hal : as.length = 4 := by rw [R.at_.len, g.four]
          refine ⟨_, rfl, _, rfl, p, a.C, dx, _, _, rfl, s2 _ _ hp, T.cl, T.nR, fl_rows l, _, rfl, l, _, i, i.toNat, rfl, rfl, s2 _ _ R.at_.lst, ixN_of hi4.1 (by rw [List.length_map, hal]; exact hi4.2), ?_⟩
          have hset : (as.map V.ref).set i.toNat (V.ref c) = (as.set i.toNat c).map V.ref := List.map_set.symm
          rw [hset]
          have ne := R.at_.ne g
          have o := g.ok hi4
          have nlc : l ≠ c := ne_of_none R.at_.lst hc
          have nlb : b ≠ l := Ne.symm (ne_of R.at_.lst hb2 (ref_iv ne))
          have hb4 : (upd (upd H c (.lst (iv (Rc94.moved (Rc94.row s i) x' y' n')))) l (.lst ((as.set i.toNat c).map V.ref))) b = some (.lst (iv (Rc94.row s i))) := by
            rw [upd_ne nlb]
            exact s2 _ _ hb2
          have hc4 : (upd (upd H c (.lst (iv (Rc94.moved (Rc94.row s i) x' y' n')))) l (.lst ((as.set i.toNat c).map V.ref))) c = some (.lst (iv (Rc94.moved (Rc94.row s i) x' y' n'))) := by
            rw [upd_ne (Ne.symm nlc)]
            exact upd_same
          refine ⟨_, rfl, _, rfl, b, c, _, _, rfl, SqL.of hb4, SqL.of hc4, o.lt64, by rw [moved_len]; exact o.lt64, fun H2 sm => ⟨_, rfl, by show 1 ≤ sizeLine; decide, fun q hq => ?_⟩⟩
          have z := k.set R g (by omega) s2 hc upd_same sm hq
          have el : (ansOf { value := ((Rc94.bit (Rc94.over (Rc94.row s i) (Rc94.moved (Rc94.row s i) x' y' n')) : Nat) : Int) }).map V.int = [V.int (if Rc94.over (Rc94.row s i) (Rc94.moved (Rc94.row s i) x' y' n') = true then (1 : Int) else 0)] := by
            cases Rc94.over (Rc94.row s i) (Rc94.moved (Rc94.row s i) x' y' n') <;> rfl
          rw [el] at z
          exact z
end
end Ev
end
section
set_option Elab.async false
set_option linter.all false
set_option autoImplicit false
set_option maxRecDepth 100000
set_option maxHeartbeats 4000000
namespace Ev
open PySem PySem.Spec PyProof.Rows L2
structure Acc (H1 : Hp) (D : Addr) (xs : Nat → List V) (i : Nat) (H : Hp) : Prop where
  at_ : H D = some (.lst (xs i))
  sm : Same H1 H
theorem Acc.zero {H1 : Hp} {D : Addr} {xs : Nat → List V} (hD : H1 D = none) (h : xs 0 = []) : Acc H1 D xs 0 (upd H1 D (.lst [])) := ⟨by rw [upd_same, h], same_new hD⟩
theorem Acc.add {H1 H H4 : Hp} {D : Addr} {xs : Nat → List V} {i : Nat} {y : V} (A : Acc H1 D xs i H) (hD : H1 D = none) (s : Same H H4) (hl : (xs i).length < sizeLine) (e : xs (i + 1) = xs i ++ [y]) :
    ∃ acc, H4 D = some (.lst acc) ∧ acc.length < sizeLine ∧ Acc H1 D xs (i + 1) (upd H4 D (.lst (acc ++ [y]))) :=
  ⟨xs i, s _ _ A.at_, hl, by rw [upd_same, e], fun b o h => by rw [upd_ne (ne_of_none h hD)]; exact s _ _ (A.sm b o h)⟩
theorem Acc.skip {H1 H H3 : Hp} {D : Addr} {xs : Nat → List V} {i : Nat} (A : Acc H1 D xs i H) (s : Same H H3) (e : xs (i + 1) = xs i) : Acc H1 D xs (i + 1) H3 := ⟨by rw [e]; exact s _ _ A.at_, A.sm.trans s⟩
theorem line_lt {n : Nat} (h : n ≤ 1000) : n < sizeLine := small1000 h
theorem iv_snoc (l : List Nat) (n : Nat) : iv (l ++ [n]) = iv l ++ [V.int (n : Int)] := by
  show ((l ++ [n]).map _).map V.int = _
  rw [List.map_append, List.map_append]
  rfl
theorem ixK {X : Cx} (K : PySem.W.Frag) (h : X.K = K := by rfl) : IxR X (rIxL K) := h ▸ ix_list
theorem sumK {X : Cx} (K : PySem.W.Frag) (hc : X.calm = true) (h : X.K = K := by rfl) : CallR X (.builtin "sum") (rSum K) := h ▸ cr_sum hc
theorem tupK {X : Cx} (K : PySem.W.Frag) {pos : Pos} {es : List Expr} {k : Nat} {t : TGs} (n : Nat) (hc : X.calm = true) (h : PGs X es t) (hK : X.K = K := by rfl)
    (hn : (assignEach es X.env).length = n := by rfl) (hst : (assignEach es X.env).findIdx? (·.1) = none := by rfl) : PG X (.Tuple es k pos) (gTup K n t) := hK ▸ pg_tup hc h hn hst
theorem vint_eq {i j : Int} (h : i = j) : V.int i = V.int j := by rw [h]
theorem refs_at' {as : List Addr} {j : Nat} {v : V} (h : (as.map V.ref)[j]? = some v) : ∃ b, as[j]? = some b ∧ v = V.ref b := by
  rw [List.getElem?_map] at h
  cases e : as[j]? with
  | none => rw [e] at h; cases h
  | some b => rw [e] at h; exact ⟨b, rfl, (Option.some.inj h).symm⟩
structure Rows (H1 : Hp) (D : Addr) (rs : Nat → List (List Nat)) (i : Nat) (H : Hp) : Prop where
  ex : ∃ as, LstAt H D as (rs i) ∧ ∀ b ∈ as, b ≠ D
  sm : Same H1 H
theorem Rows.zero {H1 : Hp} {D : Addr} {rs : Nat → List (List Nat)} (hD : H1 D = none) (h : rs 0 = []) : Rows H1 D rs 0 (L2.upd H1 D (.lst [])) :=
  ⟨⟨[], ⟨upd_same, by rw [h]; rfl, fun j b hb => by cases hb⟩, fun b hb => nomatch hb⟩, same_new hD⟩
theorem Rows.add {H1 H H4 : Hp} {D b : Addr} {rs : Nat → List (List Nat)} {i : Nat} {r : List Nat} (R : Rows H1 D rs i H) (hD : H1 D = none) (s : Same H H4) (hl : (rs i).length < sizeLine) (hb : H4 b = some (.lst (iv r))) (hbD : b ≠ D) (e : rs (i + 1) = rs i ++ [r]) :
    ∃ acc, H4 D = some (.lst acc) ∧ acc.length < sizeLine ∧ Rows H1 D rs (i + 1) (L2.upd H4 D (.lst (acc ++ [V.ref b]))) := by
  obtain ⟨as, L, nD⟩ := R.ex
  refine ⟨as.map V.ref, s _ _ L.lst, by rw [List.length_map, L.len]; exact hl, ⟨as ++ [b], ⟨?_, ?_, fun j c hc => ?_⟩, fun c hc => ?_⟩, fun c o h => by rw [upd_ne (ne_of_none h hD)]; exact s _ _ (R.sm c o h)⟩
  · rw [upd_same, List.map_append]; rfl
  · rw [e, List.length_append, List.length_append, L.len]; rfl
  · rw [e]
    by_cases hj : j < as.length
    · rw [List.getElem?_append_left hj] at hc
      obtain ⟨r', h1, h2⟩ := L.row j c hc
      exact ⟨r', by rw [List.getElem?_append_left (by rw [← L.len]; exact hj)]; exact h1, by rw [upd_ne (nD c (List.mem_of_getElem? hc))]; exact s _ _ h2⟩
    · rw [List.getElem?_append_right (by omega)] at hc
      have e0 : j - as.length = 0 := by
        have := (List.getElem?_eq_some_iff.mp hc).1
        simp at this
        omega
      rw [e0] at hc
      obtain rfl : b = c := Option.some.inj hc
      refine ⟨r, ?_, by rw [upd_ne hbD]; exact hb⟩
      rw [List.getElem?_append_right (by rw [← L.len]; omega), ← L.len, e0]
      rfl
  · rcases List.mem_append.mp hc with z | z
    · exact nD c z
    · rw [List.mem_singleton.mp z]; exact hbD
theorem Rows.skip {H1 H H3 : Hp} {D : Addr} {rs : Nat → List (List Nat)} {i : Nat} (R : Rows H1 D rs i H) (s : Same H H3) (e : rs (i + 1) = rs i) : Rows H1 D rs (i + 1) H3 := by
  obtain ⟨as, L, nD⟩ := R.ex
  exact ⟨⟨as, by rw [e]; exact L.mono s, nD⟩, R.sm.trans s⟩
end Ev
end
section
set_option Elab.async false
set_option linter.all false
set_option autoImplicit false
set_option maxRecDepth 100000
set_option maxHeartbeats 4000000
namespace Ev
open PySem PySem.Spec PyProof.Rows L2
section
variable {P : Program} {w : World} {K : PySem.W.Frag} {mg : Str → Option Value} {base : Heap} {a : Ads}
def sp_step_towards : Sp := fun vs H Q _ => ∃ (b c : Addr) (x y : List Nat), vs = [.ref b, .ref c] ∧ H b = some (.lst (iv x)) ∧ H c = some (.lst (iv y)) ∧ x.length = y.length ∧ x.length ≤ 12 ∧ Rc94.sorted x = x ∧ Rc94.sorted y = y ∧ Rc94.over x y = true ∧
  ∀ (H' : Hp) (q : Addr), Same H H' → (q = b ∨ H q = none) → H' q = some (.lst (iv (Rc94.step x y))) → Q (.ref q) H'
theorem sc_step_towards : FnScope ["x", "y", "less", "more", "giver", "taker", "p"] ["x", "y"] (defScope s_step_towards) := ⟨rfl, rfl, rfl, by decide +kernel, rfl, by decide +kernel, by decide +kernel⟩
abbrev lcSc (l : List (Str × NameKind)) : Scope := { kind := .function, names := (".0", .local) :: l, isGenerator := false, isCoroutine := false }
theorem filt_succ (f : Nat → Bool) (i : Nat) : (List.range (i + 1)).filter f = (List.range i).filter f ++ (if f i = true then [i] else []) := by
  rw [List.range_succ, List.filter_append, List.filter_cons, List.filter_nil]
theorem filt_len (f : Nat → Bool) (i : Nat) : ((List.range i).filter f).length ≤ i := Nat.le_trans (List.length_filter_le _ _) (by rw [List.length_range]; exact Nat.le_refl _)
theorem ok_step_towards (T : Txt K mg a) : FnOk P w K mg base CX0 2 a.step_towards.a a.step_towards.d ["x", "y"] sp_step_towards := by
  have G : FnOk P w K mg base CX0 1 a.with_moved.a a.with_moved.d ["row", "p", "q", "a"] sp_with_moved := ok_with_moved T
  refine T.step_towards.F.ok sc_step_towards (fun vs H Q E h => ?_) (fun cdv A outer s H vs Q E hr h => ?_)
  · obtain ⟨b, c, x, y, rfl, _⟩ := h
    rfl
  · obtain ⟨b, c, x, y, rfl, hb, hc, hxy, h12, sx, sy, ho, k⟩ := h
    have B1 : BlkOk ["x", "y", "less", "more", "giver", "taker", "p"] (defScope s_step_towards) (lcSc [("p", .local), ("x", .free), ("y", .free)]) [("p", 6)] := blkOk_by (by decide +kernel)
    have B2 : BlkOk ["x", "y", "less", "more", "giver", "taker", "p"] (defScope s_step_towards) (lcSc [("p", .local), ("giver", .free)]) [("p", 6)] := blkOk_by (by decide +kernel)
    refine ⟨_, pss_cons (ps_setLc (i := 2) (own := [("p", 6)]) rfl sc_step_towards.nd rfl rfl (sw_true rfl rfl rfl rfl) (pi_range1 rfl T.range (pa_cons (pe_callB call_len_seq (by rfl) T.len PySem.boot_len (pa_cons (pv 0) pa_nil)) pa_nil)) B1
        (fun _ _ _ _ _ => pg_name (i := 6) sc_step_towards.nd rfl (Or.inl rfl)) (fun _ _ _ _ _ => pts_one (pt_cmpR op_lt (pe_ix (ixK K) (pv 0) (pv 6) (fun _ _ => rfl)) (pe_ix (ixK K) (pv 1) (pv 6) (fun _ _ => rfl)) (nomark _))) (fun _ _ _ _ _ => pv 6))
      (pss_cons (ps_if (pt_cmpR (op_eqL hr.units) (pv 2) (pe_lst pa_nil) (nomark _)) (pss_one (ps_ret (pv 0))) pss_nil)
      (pss_cons (ps_setLc (i := 3) (own := [("p", 6)]) rfl sc_step_towards.nd rfl rfl (sw_true rfl rfl rfl rfl) (pi_range1 rfl T.range (pa_cons (pe_ix ix_list (pv 2) (pe_un un_neg pe_int) (fun _ _ => rfl)) pa_nil)) B1
        (fun _ _ _ _ _ => pg_name (i := 6) sc_step_towards.nd rfl (Or.inl rfl)) (fun _ _ _ _ _ => pts_one (pt_cmpR op_gt (pe_ix (ixK K) (pv 0) (pv 6) (fun _ _ => rfl)) (pe_ix (ixK K) (pv 1) (pv 6) (fun _ _ => rfl)) (nomark _))) (fun _ _ _ _ _ => pv 6))
      (pss_cons (ps_set (i := 4) sc_step_towards.nd rfl (Or.inr rfl) (pe_ix ix_list (pv 3) (pe_un un_neg pe_int) (fun _ _ => rfl)))
      (pss_cons (ps_set (i := 5) sc_step_towards.nd rfl (Or.inl rfl) (pe_ix ix_list (pe_lc (own := [("p", 6)]) rfl sc_step_towards.nd (pi_list (pv 2)) B2 (fun _ _ _ _ _ => pg_name (i := 6) sc_step_towards.nd rfl (Or.inl rfl)) (fun _ _ _ _ _ => pts_one (pt_cmpR op_gt (pv 6) (pv 4) (nomark _))) (fun _ _ _ _ _ => pv 6)) pe_int (fun _ _ => rfl)))
      (pss_one (ps_ret (pe_call G hr rfl T.with_moved.m T.with_moved.k T.with_moved.b .nil pass0 (pa_cons (pv 0) (pa_cons (pv 4) (pa_cons (pv 5) (pa_cons (pe_callB (call_min2 rfl) (by rfl) T.min boot_min (pa_cons (pe_op op_sub (pe_ix ix_list (pv 0) (pv 4) (fun _ _ => rfl)) (pe_ix ix_list (pv 1) (pv 4) (fun _ _ => rfl))) (pa_cons (pe_op op_sub (pe_ix ix_list (pv 1) (pv 5) (fun _ _ => rfl)) (pe_ix ix_list (pv 0) (pv 5) (fun _ _ => rfl))) pa_nil))) pa_nil))))))))))), ?_⟩
    -- less
    have nx : (((iv x).length : Nat) : Int).toNat = x.length := by rw [iv_len]; omega
    refine ⟨_, rfl, b, _, rfl, .inl (SqL.of hb), _, rfl, by omega, by rw [iv_len]; omega, fun D hD => lc_range (Acc H D fun i => iv ((List.range i).filter (lessAt x y))) (Acc.zero hD rfl) (fun i H' hi A => ?_) fun H1 A1 => ?_⟩
    · rw [nx] at hi
      refine ⟨rfl, _, rfl, _, rfl, b, _, _, _, rfl, rfl, SqL.of (A.sm _ _ hb), L2.at_of (j := i) (by omega) (iv_at (at_get hi)), _, rfl, _, rfl, c, _, _, _, rfl, rfl, SqL.of (A.sm _ _ hc), L2.at_of (j := i) (by omega) (iv_at (at_get (by omega))), _, _, rfl, rfl, _, rfl, ite2 (fun q => ?_) (fun q => ?_)⟩
      · have q := of_decide_eq_true q
        refine ⟨_, rfl, A.add hD (Same.refl H') (line_lt (by rw [iv_len]; have := filt_len (lessAt x y) i; omega)) ?_⟩
        rw [filt_succ, if_pos (show lessAt x y i = true from decide_eq_true (by omega)), iv_snoc]
        rw [vint_eq (show (0 : Int) + ((i : Nat) : Int) = (i : Int) by omega)]
      · refine A.skip (Same.refl H') ?_
        rw [filt_succ, if_neg (show ¬ lessAt x y i = true from fun z => q (decide_eq_true (by have := of_decide_eq_true z; omega))), List.append_nil]
    · rw [nx] at A1
      have a1 : H1 D = some (.lst (iv ((List.range x.length).filter (lessAt x y)))) := A1.at_
      refine ⟨_, rfl, Nat.zero_le _, fun n0 hn0 => ⟨D, n0, zs ((List.range x.length).filter (lessAt x y)), [], rfl, rfl, SqL.of ((same_new hn0) _ _ a1), SqL.of upd_same, _, rfl, ite2 (fun q => ?_) (fun q => ?_)⟩⟩
      · have e : (List.range x.length).filter (lessAt x y) = [] := zs_inj (of_decide_eq_true q)
        have s2 := A1.sm.trans (same_new (o := .lst []) hn0)
        exact ⟨_, rfl, k _ b s2 (.inl rfl) (by rw [step_same e]; exact s2 _ _ hb)⟩
      · have ne : (List.range x.length).filter (lessAt x y) ≠ [] := fun z => q (decide_eq_true (by rw [z]; rfl))
        obtain ⟨l1, lk, e1⟩ := snoc_of ne
        have s2 := A1.sm.trans (same_new (o := .lst []) hn0)
        have a2 : (L2.upd H1 n0 (.lst [])) D = some (.lst (iv (l1 ++ [lk]))) := by rw [← e1]; exact (same_new hn0) _ _ a1
        generalize L2.upd H1 n0 (.lst []) = H2 at s2 a2
        obtain ⟨hlk, _, _⟩ := last_of e1
        -- more
        refine ⟨_, rfl, _, rfl, D, _, _, _, rfl, rfl, SqL.of a2, by rw [iv_snoc]; exact atI_last _ _, _, rfl, by omega, by omega, fun D2 hD2 => lc_range (Acc H2 D2 fun i => iv ((List.range i).filter (moreAt x y))) (Acc.zero hD2 rfl) (fun i H' hi A => ?_) fun H3 A3 => ?_⟩
        · have hi : i < lk := by omega
          refine ⟨rfl, _, rfl, _, rfl, b, _, _, _, rfl, rfl, SqL.of (A.sm _ _ (s2 _ _ hb)), L2.at_of (j := i) (by omega) (iv_at (at_get (by omega))), _, rfl, _, rfl, c, _, _, _, rfl, rfl, SqL.of (A.sm _ _ (s2 _ _ hc)), L2.at_of (j := i) (by omega) (iv_at (at_get (by omega))), _, _, rfl, rfl, _, rfl, ite2 (fun q => ?_) (fun q => ?_)⟩
          · have q := of_decide_eq_true q
            refine ⟨_, rfl, A.add hD2 (Same.refl H') (line_lt (by rw [iv_len]; have := filt_len (moreAt x y) i; omega)) ?_⟩
            rw [filt_succ, if_pos (show moreAt x y i = true from decide_eq_true (by omega)), iv_snoc]
            rw [vint_eq (show (0 : Int) + ((i : Nat) : Int) = (i : Int) by omega)]
          · refine A.skip (Same.refl H') ?_
            rw [filt_succ, if_neg (show ¬ moreAt x y i = true from fun z => q (decide_eq_true (by have := of_decide_eq_true z; omega))), List.append_nil]
        · have nl : ((lk : Nat) : Int).toNat = lk := by omega
          rw [nl] at A3
          obtain ⟨m1, j, e2⟩ := snoc_of (step_more sx sy ho e1)
          have a3 : H3 D2 = some (.lst (iv (m1 ++ [j]))) := by rw [← e2]; exact A3.at_
          have s3 := s2.trans A3.sm
          have a4 := A3.sm _ _ a2
          refine ⟨_, rfl, _, rfl, D2, _, _, _, rfl, rfl, SqL.of a3, by rw [iv_snoc]; exact atI_last _ _, ?_⟩
          -- taker
          refine ⟨_, rfl, D, rfl, ⟨_, SqL.of a4⟩, fun D3 hD3 => lc_list (K := K) (xs := iv (l1 ++ [lk])) (Acc H3 D3 fun i => iv (((l1 ++ [lk]).take i).filter fun p => decide (j < p))) (Acc.zero hD3 rfl) (fun i H' _ A => SqL.of (A.sm _ _ a4)) (fun i v H' hv A => ?_) fun H4 A4 => ?_⟩
          · obtain ⟨n, hn, rfl⟩ := iv_of hv
            have et : (l1 ++ [lk]).take (i + 1) = (l1 ++ [lk]).take i ++ [n] := by rw [List.take_add_one, hn]; rfl
            refine ⟨rfl, _, rfl, _, rfl, _, _, rfl, rfl, _, rfl, ite2 (fun q => ?_) (fun q => ?_)⟩
            · have q := of_decide_eq_true q
              refine ⟨_, rfl, A.add hD3 (Same.refl H') (line_lt (by
                rw [iv_len]
                have h1 := List.length_filter_le (fun p => decide (j < p)) ((l1 ++ [lk]).take i)
                have h2 : ((l1 ++ [lk]).take i).length ≤ (l1 ++ [lk]).length := List.length_take_le' _ _
                have h3 := filt_len (lessAt x y) x.length
                rw [e1] at h3
                omega)) ?_⟩
              show iv (((l1 ++ [lk]).take (i + 1)).filter _) = _
              rw [et, List.filter_append, List.filter_cons, if_pos (decide_eq_true (by omega)), List.filter_nil, iv_snoc]
            · refine A.skip (Same.refl H') ?_
              show iv (((l1 ++ [lk]).take (i + 1)).filter _) = _
              rw [et, List.filter_append, List.filter_cons, if_neg fun z => q (decide_eq_true (by have := of_decide_eq_true z; omega)), List.filter_nil, List.append_nil]
          · obtain ⟨kk, t, e3⟩ := step_take e1 e2
            have S := step_at e1 e2 e3
            rw [e1] at e3
            have a5 : H4 D3 = some (.lst (iv (kk :: t))) := by
              have z := A4.at_
              rw [iv_len, List.take_of_length_le (Nat.le_refl _), e3] at z
              exact z
            have s4 := s3.trans A4.sm
            have lj : j < x.length := Nat.lt_trans S.lt S.len
            refine ⟨D3, _, _, _, rfl, rfl, SqL.of a5, atI_nat (j := 0) rfl, ?_⟩
            refine ⟨_, rfl, _, rfl, _, rfl, _, rfl, _, rfl, b, _, _, _, rfl, rfl, SqL.of (s4 _ _ hb), iv_nat lj, _, rfl, _, rfl, c, _, _, _, rfl, rfl, SqL.of (s4 _ _ hc), iv_nat (by omega), _, _, rfl, rfl, _, rfl, _, rfl, c, _, _, _, rfl, rfl, SqL.of (s4 _ _ hc), iv_nat (by rw [← hxy]; exact S.len), _, rfl, _, rfl, b, _, _, _, rfl, rfl, SqL.of (s4 _ _ hb), iv_nat S.len, _, _, rfl, rfl, _, _, rfl, ?_⟩
            have h1 := S.more
            have h2 := S.less
            refine ⟨b, x, j, kk, min (Rc94.at_ x j - Rc94.at_ y j) (Rc94.at_ y kk - Rc94.at_ x kk), ?_, s4 _ _ hb, lj, S.len, Nat.ne_of_lt S.lt, by omega, fun q hq => k _ q (s4.trans (same_new hq)) (.inr (s4.free hq)) (by rw [upd_same, S.eq])⟩
            have e : (if (Rc94.at_ y kk : Int) - (Rc94.at_ x kk : Int) < (Rc94.at_ x j : Int) - (Rc94.at_ y j : Int) then (Rc94.at_ y kk : Int) - (Rc94.at_ x kk : Int) else (Rc94.at_ x j : Int) - (Rc94.at_ y j : Int)) = ((min (Rc94.at_ x j - Rc94.at_ y j) (Rc94.at_ y kk - Rc94.at_ x kk) : Nat) : Int) := by split <;> omega
            exact congrArg (fun z => [V.ref b, V.int (j : Int), V.int (kk : Int), V.int z]) e
def sp_where_they_meet (K : PySem.W.Frag) : Sp := fun vs H Q _ => ∃ (b c : Addr) (x y : List Nat), vs = [.ref b, .ref c] ∧ SqL K H b (iv x) ∧ SqL K H c (iv y) ∧ x.length = y.length ∧ x.length ≤ 12 ∧
  ∀ (H' : Hp) (q : Addr), Same H H' → H q = none → H' q = some (.lst (iv (Rc94.met x y))) → Q (.ref q) H'
theorem sc_where_they_meet : FnScope ["first", "second", "met", "first_sum", "second_sum", "mine", "other", "before"] ["first", "second"] (defScope s_where_they_meet) := ⟨rfl, rfl, rfl, by decide +kernel, rfl, by decide +kernel, by decide +kernel⟩
theorem min_int (i j : Nat) : (if (j : Int) < (i : Int) then (j : Int) else (i : Int)) = ((min i j : Nat) : Int) := by
  split <;> omega
theorem ok_where_they_meet (T : Txt K mg a) : FnOk P w K mg base CX0 2 a.where_they_meet.a a.where_they_meet.d ["first", "second"] (sp_where_they_meet K) := by
  have G : FnOk P w K mg base CX0 1 a.greatest_first.a a.greatest_first.d ["row"] (sp_greatest_first K) := ok_greatest_first T
  refine T.where_they_meet.F.ok sc_where_they_meet (fun vs H Q E h => ?_) (fun cdv A outer s H vs Q E hr h => ?_)
  · obtain ⟨b, c, x, y, rfl, _⟩ := h
    rfl
  · obtain ⟨b, c, x, y, rfl, h1, h2, el, h12, k⟩ := h
    refine ⟨_, pss_cons (ps_set (i := 2) sc_where_they_meet.nd rfl (Or.inl rfl) (pe_lst pa_nil))
      (pss_cons (ps_set (i := 3) sc_where_they_meet.nd rfl (Or.inl rfl) pe_int)
      (pss_cons (ps_set (i := 4) sc_where_they_meet.nd rfl (Or.inl rfl) pe_int)
      (pss_cons (ps_for PassesOwn.never rfl (pi_zip rfl T.zip (pa_cons (pe_call G hr rfl T.greatest_first.m T.greatest_first.k T.greatest_first.b .nil pass0 (pa_cons (pv 0) pa_nil)) (pa_cons (pe_call G hr rfl T.greatest_first.m T.greatest_first.k T.greatest_first.b .nil pass0 (pa_cons (pv 1) pa_nil)) pa_nil))) (pg_tup rfl (pgs_cons (pg_name (i := 5) sc_where_they_meet.nd rfl (Or.inl rfl)) (pgs_cons (pg_name (i := 6) sc_where_they_meet.nd rfl (Or.inl rfl)) pgs_nil))) (pss_cons (ps_set (i := 7) sc_where_they_meet.nd rfl (Or.inl rfl) (pe_callB (call_min2 rfl) (by rfl) T.min boot_min (pa_cons (pv 3) (pa_cons (pv 4) pa_nil))))
      (pss_cons (ps_set (i := 3) sc_where_they_meet.nd rfl (Or.inl rfl) (pe_op op_add (pv 3) (pv 5)))
      (pss_cons (ps_set (i := 4) sc_where_they_meet.nd rfl (Or.inl rfl) (pe_op op_add (pv 4) (pv 6)))
      (pss_one (ps_expr (pe_bm PySem.F.plainAttrs_list PySem.F.slot_list_append PySem.F.type_list_append mt_append (pv 2) (pa_cons (pe_op op_sub (pe_callB (call_min2 rfl) (by rfl) T.min boot_min (pa_cons (pv 3) (pa_cons (pv 4) pa_nil))) (pv 7)) pa_nil))))))))
      (pss_one (ps_ret (pv 2)))))), ?_⟩
    refine ⟨Nat.zero_le _, fun m hm => ?_⟩
    have s0 : Same H (L2.upd H m (.lst [])) := same_new hm
    refine ⟨_, rfl, b, x, rfl, s0.seq h1, by omega, fun q1 hq1 => ⟨_, rfl, c, y, rfl, (same_new hq1).seq (s0.seq h2), by omega, fun q2 hq2 => ?_⟩⟩
    have t1 : Same (L2.upd H m (.lst [])) (L2.upd (L2.upd H m (.lst [])) q1 (.lst (iv (Rc94.sorted x)))) := same_new hq1
    have t2 : Same (L2.upd (L2.upd H m (.lst [])) q1 (.lst (iv (Rc94.sorted x)))) (L2.upd (L2.upd (L2.upd H m (.lst [])) q1 (.lst (iv (Rc94.sorted x)))) q2 (.lst (iv (Rc94.sorted y)))) := same_new hq2
    have a0 : (L2.upd (L2.upd (L2.upd H m (.lst [])) q1 (.lst (iv (Rc94.sorted x)))) q2 (.lst (iv (Rc94.sorted y)))) m = some (.lst []) := t2 _ _ (t1 _ _ upd_same)
    have a1 := t2 q1 _ upd_same
    have a2 : (L2.upd (L2.upd (L2.upd H m (.lst [])) q1 (.lst (iv (Rc94.sorted x)))) q2 (.lst (iv (Rc94.sorted y)))) q2 = some (.lst (iv (Rc94.sorted y))) := upd_same
    have n1 : m ≠ q1 := ne_of_none upd_same hq1
    have n2 : m ≠ q2 := ne_of_none (t1 _ _ upd_same) hq2
    have sm := s0.trans (t1.trans t2)
    generalize L2.upd (L2.upd (L2.upd H m (.lst [])) q1 (.lst (iv (Rc94.sorted x)))) q2 (.lst (iv (Rc94.sorted y))) = H2 at a0 a1 a2 sm
    refine ⟨q1, q2, _, _, rfl, SqL.of a1, SqL.of a2, for_zip (K := K) (a := q1) (b := q2) (xs := iv (Rc94.sorted x)) (ys := iv (Rc94.sorted y))
      (fun i σ H' => ∃ u v z : Option V, σ = [some (.ref b), some (.ref c), some (.ref m), some (.int (Rc94.head x i : Int)), some (.int (Rc94.head y i : Int)), u, v, z] ∧ H' m = some (.lst (iv ((Rc94.met x y).take i))) ∧ ∀ b o, H2 b = some o → b ≠ m → H' b = some o)
      (by rw [iv_len, iv_len, sorted_len, sorted_len, el]) ⟨none, none, none, rfl, a0, fun _ _ h _ => h⟩ (fun i σ H' _ ⟨_, _, _, _, _, sm'⟩ => ⟨SqL.of (sm' _ _ a1 (Ne.symm n1)), SqL.of (sm' _ _ a2 (Ne.symm n2))⟩) ?_ ?_⟩
    · rintro i x' y' σ H' t hx hy ⟨u, v, z, rfl, hm', sm'⟩ ht
      obtain ⟨m1, e1, rfl⟩ := iv_of hx
      obtain ⟨m2, e2, rfl⟩ := iv_of hy
      have hi : i < x.length := by
        have := (List.getElem?_eq_some_iff.mp e1).1
        rw [sorted_len] at this
        exact this
      refine ⟨t, _, rfl, SqT.of upd_same, rfl, _, _, rfl, _, _, rfl, rfl, ?_⟩
      refine ⟨_, rfl, _, rfl, _, _, rfl, ?_⟩
      rw [min_int]
      refine ⟨_, rfl, _, rfl, _, _, rfl, rfl, ?_⟩
      refine ⟨_, rfl, _, rfl, _, _, rfl, rfl, ?_⟩
      have w1 : (Rc94.head x i : Int) + (m1 : Int) = ((Rc94.head x (i + 1) : Nat) : Int) := by rw [head_succ e1]; omega
      have w2 : (Rc94.head y i : Int) + (m2 : Int) = ((Rc94.head y (i + 1) : Nat) : Int) := by rw [head_succ e2]; omega
      dsimp only
      rw [w1, w2]
      have ntm : m ≠ t := ne_of_none hm' ht
      have hm2 := (same_new (o := .tup [V.int (m1 : Int), V.int (m2 : Int)]) ht) _ _ hm'
      refine ⟨_, rfl, .inl ⟨rfl, _, SqL.of hm2⟩, _, rfl, _, rfl, _, _, rfl, ?_⟩
      rw [min_int]
      refine ⟨_, rfl, _, _, rfl, rfl, m, _, _, rfl, rfl, hm2, line_lt (by rw [iv_len, List.length_take]; omega), ?_⟩
      refine ⟨_, _, _, rfl, ?_, fun b' o h hb' => ?_⟩
      · rw [upd_same, met_take hi, iv_snoc]
        congr 4
        have h1 := head_step x i
        have h2 := head_step y i
        exact vint_eq (by omega)
      · rw [upd_ne hb', upd_ne (ne_of_none (sm' b' o h hb') ht)]
        exact sm' b' o h hb'
    · rintro σ H' ⟨u, v, z, rfl, hm', sm'⟩
      rw [iv_len, sorted_len, List.take_of_length_le (by rw [met_len]; exact Nat.le_refl _)] at hm'
      exact ⟨_, rfl, k H' m (fun b' o h => sm' b' o (sm b' o h) (ne_of_none h hm)) hm hm'⟩
end
end Ev
end
section
set_option Elab.async false
set_option linter.all false
set_option autoImplicit false
set_option maxRecDepth 100000
set_option maxHeartbeats 4000000
namespace Ev
open PySem PySem.Spec PyProof.Rows L2
section
variable {P : Program} {w : World} {K : PySem.W.Frag} {mg : Str → Option Value} {base : Heap} {a : Ads}
def sp_take_step (C : Addr) : Sp := fun vs H Q _ => ∃ (p l : Addr) (as : List Addr) (s : Rc94.Abs) (i j : Int), vs = [.ref p, .int i, .int j] ∧ RowsAt C H p l as s.rows ∧ Good s ∧ Out C H p l as (Rc94.does s (.step i j)) Q
theorem sc_take_step : FnScope ["self", "i", "j", "before", "goal"] ["self", "i", "j"] (defScope s_take_step) := ⟨rfl, rfl, rfl, by decide +kernel, rfl, by decide +kernel, by decide +kernel⟩
theorem ok_take_step (T : Txt K mg a) : FnOk P w K mg base CX0 3 a.take_step.a a.take_step.d ["self", "i", "j"] (sp_take_step a.C) := by
  have G1 : FnOk P w K mg base CX0 2 a.are_row_numbers.a a.are_row_numbers.d ["i", "j"] sp_are_row_numbers := ok_are_row_numbers T
  have G2 : FnOk P w K mg base CX0 2 a.is_over.a a.is_over.d ["first", "second"] (sp_is_over K) := ok_is_over T
  have G3 : FnOk P w K mg base CX0 1 a.greatest_first.a a.greatest_first.d ["row"] (sp_greatest_first K) := ok_greatest_first T
  have G4 : FnOk P w K mg base CX0 2 a.step_towards.a a.step_towards.d ["x", "y"] sp_step_towards := ok_step_towards T
  refine T.take_step.F.ok sc_take_step (fun vs H Q E h => ?_) (fun cdv A outer s H vs Q E hr h => ?_)
  · obtain ⟨p, l, as, s, i, j, rfl, _⟩ := h
    rfl
  · obtain ⟨p, l, as, s, i, j, rfl, R, g, k⟩ := h
    obtain ⟨dx, hp⟩ := R.obj
    have hr1 : Room 1 _ := hr.mono (by decide)
    refine ⟨_, pss_cons (ps_if (pt_not (pt_val (pe_call G1 hr rfl T.are_row_numbers.m T.are_row_numbers.k T.are_row_numbers.b .nil pass0 (pa_cons (pv 1) (pa_cons (pv 2) pa_nil))))) (pss_one (ps_ret (pe_lst (pa_cons (gl_int T.gOUTSIDE) pa_nil)))) pss_nil)
      (pss_cons (ps_if (pt_not (pt_val (pe_call G2 hr rfl T.is_over.m T.is_over.k T.is_over.b .nil pass0 (pa_cons (pe_ix ix_list (pe_fld (pv 0) rfl) (pv 1) (fun _ _ => rfl)) (pa_cons (pe_ix ix_list (pe_fld (pv 0) rfl) (pv 2) (fun _ _ => rfl)) pa_nil))))) (pss_one (ps_ret (pe_lst (pa_cons (gl_int T.gNO_MATCH) pa_nil)))) pss_nil)
      (pss_cons (ps_set (i := 3) sc_take_step.nd rfl (Or.inl rfl) (pe_call G3 hr1 rfl T.greatest_first.m T.greatest_first.k T.greatest_first.b .nil pass0 (pa_cons (pe_ix ix_list (pe_fld (pv 0) rfl) (pv 1) (fun _ _ => rfl)) pa_nil)))
      (pss_cons (ps_set (i := 4) sc_take_step.nd rfl (Or.inl rfl) (pe_call G3 hr1 rfl T.greatest_first.m T.greatest_first.k T.greatest_first.b .nil pass0 (pa_cons (pe_ix ix_list (pe_fld (pv 0) rfl) (pv 2) (fun _ _ => rfl)) pa_nil)))
      (pss_cons (ps_asg (pe_call G4 hr rfl T.step_towards.m T.step_towards.k T.step_towards.b .nil pass0 (pa_cons (pv 3) (pa_cons (pv 4) pa_nil))) (pg_sub (pe_fld (pv 0) rfl) (pv 1) set_list))
      (pss_one (ps_ret (pe_lst (pa_cons (pe_pick (pt_cmpR (op_eqL hr.units) (pv 3) (pv 4) (nomark _))) pa_nil)))))))), ?_⟩
    have k : Out a.C H p l as (if (Rc94.below i 4 && Rc94.below j 4) = false then (s, Rc94.refused) else if Rc94.over (Rc94.row s i) (Rc94.row s j) = false then (s, { value := -4 }) else
      ({ rows := s.rows.set i.toNat (Rc94.step (Rc94.sorted (Rc94.row s i)) (Rc94.sorted (Rc94.row s j))) }, { value := ((Rc94.bit (Rc94.sorted (Rc94.row s i) != Rc94.sorted (Rc94.row s j)) : Nat) : Int) })) Q := k
    refine ⟨_, rfl, _, rfl, i, j, rfl, _, rfl, ite2 (fun q => ?_) (fun q => ?_)⟩
    · rw [if_pos (nott q)] at k
      exact ⟨by show 1 ≤ sizeLine; decide, fun q hq => k.same R (Same.refl H) hq⟩
    · have q := ntt q
      rw [if_neg (by rw [q]; decide)] at k
      rw [Bool.and_eq_true] at q
      have hi4 := below4 q.1
      have hj4 := below4 q.2
      obtain ⟨b, hb1, hb2⟩ := R.at_.get g hi4
      obtain ⟨c, hc1, hc2⟩ := R.at_.get g hj4
      have ox := g.ok hi4
      have oy := g.ok hj4
      refine ⟨_, rfl, p, a.C, dx, _, _, rfl, hp, T.cl, T.nR, fl_rows l, _, rfl, l, _, i, _, rfl, rfl, SqL.of R.at_.lst, ref_at hi4.1 hb1, _, rfl, p, a.C, dx, _, _, rfl, hp, T.cl, T.nR, fl_rows l, _, rfl, l, _, j, _, rfl, rfl, SqL.of R.at_.lst, ref_at hj4.1 hc1,
        b, c, _, _, rfl, SqL.of hb2, SqL.of hc2, ox.lt64, oy.lt64, fun H1 s1 => ⟨_, rfl, ite2 (fun q => ?_) (fun q => ?_)⟩⟩
      · rw [if_pos (nott q)] at k
        exact ⟨by show 1 ≤ sizeLine; decide, fun q hq => k.same R s1 hq⟩
      · have ho := ntt q
        rw [if_neg (by rw [ho]; decide)] at k
        refine ⟨_, rfl, p, a.C, dx, _, _, rfl, s1 _ _ hp, T.cl, T.nR, fl_rows l, _, rfl, l, _, i, _, rfl, rfl, SqL.of (s1 _ _ R.at_.lst), ref_at hi4.1 hb1, b, _, rfl, SqL.of (s1 _ _ hb2), ox.lt64, fun d hd => ?_⟩
        have s2 := s1.trans (same_new (o := .lst (iv (Rc94.sorted (Rc94.row s i)))) hd)
        refine ⟨_, rfl, p, a.C, dx, _, _, rfl, s2 _ _ hp, T.cl, T.nR, fl_rows l, _, rfl, l, _, j, _, rfl, rfl, SqL.of (s2 _ _ R.at_.lst), ref_at hj4.1 hc1, c, _, rfl, SqL.of (s2 _ _ hc2), oy.lt64, fun e he => ?_⟩
        have s3 := s2.trans (same_new (o := .lst (iv (Rc94.sorted (Rc94.row s j)))) he)
        have hd3 := (same_new (o := .lst (iv (Rc94.sorted (Rc94.row s j)))) he) _ _ (upd_same (H := H1) (a := d) (o := .lst (iv (Rc94.sorted (Rc94.row s i)))))
        have he3 : (L2.upd (L2.upd H1 d (.lst (iv (Rc94.sorted (Rc94.row s i))))) e (.lst (iv (Rc94.sorted (Rc94.row s j))))) e = some (.lst (iv (Rc94.sorted (Rc94.row s j)))) := upd_same
        have hd0 : H d = none := s1.free hd
        generalize L2.upd (L2.upd H1 d (.lst (iv (Rc94.sorted (Rc94.row s i))))) e (.lst (iv (Rc94.sorted (Rc94.row s j)))) = H3 at s3 hd3 he3
        have el : (Rc94.sorted (Rc94.row s i)).length = (Rc94.sorted (Rc94.row s j)).length := by rw [sorted_len, sorted_len]; exact (over_iff.mp ho).1
        have hov : Rc94.over (Rc94.sorted (Rc94.row s i)) (Rc94.sorted (Rc94.row s j)) = true := by
          obtain ⟨z1, z2, z3⟩ := over_iff.mp ho
          refine over_iff.mpr ⟨el, by rw [sorted_sum, sorted_sum]; exact z2, fun kk hk => ?_⟩
          have := z3 kk (by rw [sorted_len] at hk; exact hk)
          unfold Rc94.head at this ⊢
          rw [sorted_sorted, sorted_sorted]
          exact this
        refine ⟨_, rfl, _, rfl, d, e, _, _, rfl, hd3, he3, el, by rw [sorted_len]; exact ox.len, sorted_sorted _, sorted_sorted _, hov, fun H4 q s4 hq hq4 => ?_⟩
        have s5 := s3.trans s4
        have hq0 : H q = none := by
          rcases hq with z | z
          · rw [z]; exact hd0
          · exact s3.free z
        have hal : as.length = 4 := by rw [R.at_.len, g.four]
        refine ⟨_, rfl, p, a.C, dx, _, _, rfl, s5 _ _ hp, T.cl, T.nR, fl_rows l, _, rfl, l, _, i, i.toNat, rfl, rfl, s5 _ _ R.at_.lst, ixN_of hi4.1 (by rw [List.length_map, hal]; exact hi4.2), ?_⟩
        have hset : (as.map V.ref).set i.toNat (V.ref q) = (as.set i.toNat q).map V.ref := List.map_set.symm
        rw [hset]
        have nel : ∀ z (r : List Nat), H4 z = some (.lst (iv r)) → z ≠ l := fun z r hz => Ne.symm (ne_of (s5 _ _ R.at_.lst) hz (ref_iv (R.at_.ne g)))
        have hd5 : (L2.upd H4 l (.lst ((as.set i.toNat q).map V.ref))) d = some (.lst (iv (Rc94.sorted (Rc94.row s i)))) := by
          rw [upd_ne (nel d _ (s4 _ _ hd3))]; exact s4 _ _ hd3
        have he5 : (L2.upd H4 l (.lst ((as.set i.toNat q).map V.ref))) e = some (.lst (iv (Rc94.sorted (Rc94.row s j)))) := by
          rw [upd_ne (nel e _ (s4 _ _ he3))]; exact s4 _ _ he3
        refine ⟨_, rfl, _, rfl, d, e, zs (Rc94.sorted (Rc94.row s i)), zs (Rc94.sorted (Rc94.row s j)), rfl, rfl, SqL.of hd5, SqL.of he5, _, rfl, by show 1 ≤ sizeLine; decide, fun r hr => ?_⟩
        have z := k.set R g (by omega) s5 hq0 hq4 (Same.refl _) hr
        have ev : (ansOf { value := ((Rc94.bit (Rc94.sorted (Rc94.row s i) != Rc94.sorted (Rc94.row s j)) : Nat) : Int) }).map V.int = [V.int (if decide (zs (Rc94.sorted (Rc94.row s i)) = zs (Rc94.sorted (Rc94.row s j))) = true then (0 : Int) else 1)] := by
          rw [zs_dec]
          by_cases hz : Rc94.sorted (Rc94.row s i) = Rc94.sorted (Rc94.row s j)
          · rw [decide_eq_true hz, hz]
            simp [ansOf, Rc94.bit]
          · rw [decide_eq_false hz]
            simp [ansOf, Rc94.bit, hz]
        rw [ev] at z
        exact z
def sp_meet (C : Addr) : Sp := fun vs H Q _ => ∃ (p l : Addr) (as : List Addr) (s : Rc94.Abs) (i j kk : Int), vs = [.ref p, .int i, .int j, .int kk] ∧ RowsAt C H p l as s.rows ∧ Good s ∧ Out C H p l as (Rc94.does s (.meet i j kk)) Q
theorem sc_meet : FnScope ["self", "i", "j", "k"] ["self", "i", "j", "k"] (defScope s_meet) := ⟨rfl, rfl, rfl, by decide +kernel, rfl, by decide +kernel, by decide +kernel⟩
theorem ok_meet (T : Txt K mg a) : FnOk P w K mg base CX0 3 a.meet.a a.meet.d ["self", "i", "j", "k"] (sp_meet a.C) := by
  have G1 : FnOk P w K mg base CX0 2 a.are_row_numbers.a a.are_row_numbers.d ["i", "j"] sp_are_row_numbers := ok_are_row_numbers T
  have G2 : FnOk P w K mg base CX0 1 a.is_row_number.a a.is_row_number.d ["i"] sp_is_row_number := ok_is_row_number T
  have G3 : FnOk P w K mg base CX0 1 a.are_comparable.a a.are_comparable.d ["first", "second"] (sp_are_comparable K) := ok_are_comparable T
  have G4 : FnOk P w K mg base CX0 2 a.where_they_meet.a a.where_they_meet.d ["first", "second"] (sp_where_they_meet K) := ok_where_they_meet T
  refine T.meet.F.ok sc_meet (fun vs H Q E h => ?_) (fun cdv A outer s H vs Q E hr h => ?_)
  · obtain ⟨p, l, as, s, i, j, kk, rfl, _⟩ := h
    rfl
  · obtain ⟨p, l, as, s, i, j, kk, rfl, R, g, k⟩ := h
    obtain ⟨dx, hp⟩ := R.obj
    have hr1 : Room 1 _ := hr.mono (by decide)
    refine ⟨_, pss_cons (ps_if (PW.pt (pw_or (pt_not (pt_val (pe_call G1 hr rfl T.are_row_numbers.m T.are_row_numbers.k T.are_row_numbers.b .nil pass0 (pa_cons (pv 1) (pa_cons (pv 2) pa_nil))))) (pw_or1 (pt_not (pt_val (pe_call G2 hr1 rfl T.is_row_number.m T.is_row_number.k T.is_row_number.b .nil pass0 (pa_cons (pv 3) pa_nil))))))) (pss_one (ps_ret (pe_lst (pa_cons (gl_int T.gOUTSIDE) pa_nil)))) pss_nil)
      (pss_cons (ps_if (pt_not (pt_val (pe_call G3 hr1 rfl T.are_comparable.m T.are_comparable.k T.are_comparable.b .nil pass0 (pa_cons (pe_ix ix_list (pe_fld (pv 0) rfl) (pv 1) (fun _ _ => rfl)) (pa_cons (pe_ix ix_list (pe_fld (pv 0) rfl) (pv 2) (fun _ _ => rfl)) pa_nil))))) (pss_one (ps_ret (pe_lst (pa_cons (gl_int T.gNO_MATCH) pa_nil)))) pss_nil)
      (pss_cons (ps_asg (pe_call G4 hr rfl T.where_they_meet.m T.where_they_meet.k T.where_they_meet.b .nil pass0 (pa_cons (pe_ix ix_list (pe_fld (pv 0) rfl) (pv 1) (fun _ _ => rfl)) (pa_cons (pe_ix ix_list (pe_fld (pv 0) rfl) (pv 2) (fun _ _ => rfl)) pa_nil))) (pg_sub (pe_fld (pv 0) rfl) (pv 3) set_list))
      (pss_one (ps_ret (pe_lst (pa_cons pe_int pa_nil)))))), ?_⟩
    have k : Out a.C H p l as (if (Rc94.below i 4 && (Rc94.below j 4 && Rc94.below kk 4)) = false then (s, Rc94.refused) else if comp (Rc94.row s i) (Rc94.row s j) = false then (s, { value := -4 }) else
      ({ rows := s.rows.set kk.toNat (Rc94.met (Rc94.row s i) (Rc94.row s j)) }, { value := 0 })) Q := k
    refine ⟨_, rfl, _, rfl, i, j, rfl, _, rfl, ite2 (fun q => ?_) (fun q => ?_)⟩
    · have q := nott q
      rw [if_pos (by rw [← Bool.and_assoc, q]; rfl)] at k
      exact iteT ⟨by show 1 ≤ sizeLine; decide, fun q hq => k.same R (Same.refl H) hq⟩
    · have q := ntt q
      refine ⟨_, rfl, kk, rfl, _, rfl, ite2 (fun q2 => ?_) (fun q2 => ?_)⟩
      · have q2 := nott q2
        rw [if_pos (by rw [q2, ← Bool.and_assoc, Bool.and_false])] at k
        exact ⟨by show 1 ≤ sizeLine; decide, fun q hq => k.same R (Same.refl H) hq⟩
      · have q2 := ntt q2
        rw [if_neg (by rw [q2, ← Bool.and_assoc, q]; decide)] at k
        rw [Bool.and_eq_true] at q
        have hi4 := below4 q.1
        have hj4 := below4 q.2
        have hk4 := below4 q2
        obtain ⟨b, hb1, hb2⟩ := R.at_.get g hi4
        obtain ⟨c, hc1, hc2⟩ := R.at_.get g hj4
        have ox := g.ok hi4
        refine ⟨_, rfl, p, a.C, dx, _, _, rfl, hp, T.cl, T.nR, fl_rows l, _, rfl, l, _, i, _, rfl, rfl, SqL.of R.at_.lst, ref_at hi4.1 hb1, _, rfl, p, a.C, dx, _, _, rfl, hp, T.cl, T.nR, fl_rows l, _, rfl, l, _, j, _, rfl, rfl, SqL.of R.at_.lst, ref_at hj4.1 hc1,
          b, c, _, _, rfl, SqL.of hb2, SqL.of hc2, _, rfl, ite2 (fun q => ?_) (fun q => ?_)⟩
        · rw [if_pos (nott q)] at k
          exact ⟨by show 1 ≤ sizeLine; decide, fun q hq => k.same R (Same.refl H) hq⟩
        · have hcm := ntt q
          rw [if_neg (by rw [hcm]; decide)] at k
          have el : (Rc94.row s i).length = (Rc94.row s j).length := by
            unfold comp at hcm
            rw [Bool.and_eq_true, beq_iff_eq] at hcm
            exact hcm.1
          refine ⟨_, rfl, p, a.C, dx, _, _, rfl, hp, T.cl, T.nR, fl_rows l, _, rfl, l, _, i, _, rfl, rfl, SqL.of R.at_.lst, ref_at hi4.1 hb1, _, rfl, p, a.C, dx, _, _, rfl, hp, T.cl, T.nR, fl_rows l, _, rfl, l, _, j, _, rfl, rfl, SqL.of R.at_.lst, ref_at hj4.1 hc1,
            b, c, _, _, rfl, SqL.of hb2, SqL.of hc2, el, ox.len, fun H1 q s1 hq hq1 => ?_⟩
          have hal : as.length = 4 := by rw [R.at_.len, g.four]
          refine ⟨_, rfl, p, a.C, dx, _, _, rfl, s1 _ _ hp, T.cl, T.nR, fl_rows l, _, rfl, l, _, kk, kk.toNat, rfl, rfl, s1 _ _ R.at_.lst, ixN_of hk4.1 (by rw [List.length_map, hal]; exact hk4.2), ?_⟩
          have hset : (as.map V.ref).set kk.toNat (V.ref q) = (as.set kk.toNat q).map V.ref := List.map_set.symm
          rw [hset]
          exact ⟨by show 1 ≤ sizeLine; decide, fun r hr => k.set R g (by omega) s1 hq hq1 (Same.refl _) hr⟩
end
end Ev
end
section
set_option Elab.async false
set_option linter.all false
set_option autoImplicit false
set_option maxRecDepth 100000
set_option maxHeartbeats 4000000
namespace Ev
open PySem PySem.Spec PyProof.Rows L2
def ky (k : List Nat) : List Key := k.map fun (n : Nat) => (Sum.inl (n : Int) : Key)
theorem ky_iv (k : List Nat) : (ky k).map kV = iv k := by
  show (k.map _).map kV = (k.map _).map V.int
  rw [List.map_map, List.map_map]
  rfl
theorem ky_inj : ∀ {a b : List Nat}, ky a = ky b → a = b
  | [], [], _ => rfl
  | [], _ :: _, h => by cases h
  | _ :: _, [], h => by cases h
  | x :: a, y :: b, h => by
    obtain ⟨h1, h2⟩ := List.cons.inj (show (Sum.inl (x : Int) : Key) :: ky a = Sum.inl (y : Int) :: ky b from h)
    rw [ky_inj h2, Int.ofNat.inj (Sum.inl.inj h1)]
def dk (D : Ways) : List (List Key × V) := D.map fun p => (ky p.1, V.int (p.2 : Int))
theorem dk_len (D : Ways) : (dk D).length = D.length := List.length_map ..
theorem dk_val (k : List Nat) : ∀ D : Ways, valV (dk D) (ky k) = (getW D k).map fun (v : Nat) => V.int (v : Int)
  | [] => rfl
  | p :: D => by
    rw [getW_cons]
    show valV ((ky p.1, V.int (p.2 : Int)) :: dk D) (ky k) = _
    by_cases h : p.1 = k
    · rw [if_pos h, valV_pos (by show ky p.1 = ky k; rw [h])]
      rfl
    · rw [if_neg h, valV_neg (fun z => h (ky_inj z)), dk_val k D]
theorem dk_put (D : Ways) (k : List Nat) (v : Nat) (nd : (D.map (·.1)).Nodup) : putK (dk D) (ky k) (V.int ((((getW D k).getD 0) : Nat) + (v : Int))) = dk (addW D k v) := by
  unfold putK
  rw [valV_any, dk_val]
  unfold addW
  cases e : getW D k with
  | none =>
    simp only [Option.map_none, Option.isSome_none, Bool.false_eq_true, if_false]
    unfold dk
    rw [List.map_append]
    simp
  | some u =>
    simp only [Option.map_some, Option.isSome_some, if_true]
    unfold dk
    rw [List.map_map, List.map_map]
    refine List.map_congr_left fun p hp => ?_
    show (if ky p.1 = ky k then (ky p.1, _) else (ky p.1, V.int (p.2 : Int))) = _
    by_cases h : p.1 = k
    · have : getW D k = some p.2 := getW_of nd (by rw [← h]; exact hp)
      rw [e] at this
      rw [if_pos (by rw [h])]
      show _ = (ky (if p.1 = k then (p.1, p.2 + v) else p).1, V.int (((if p.1 = k then (p.1, p.2 + v) else p).2 : Nat) : Int))
      rw [if_pos h]
      have e2 : u = p.2 := Option.some.inj this
      subst e2
      show (ky p.1, V.int ((p.2 : Int) + (v : Int))) = (ky p.1, V.int ((p.2 + v : Nat) : Int))
      rw [Int.natCast_add]
    · rw [if_neg (fun z => h (ky_inj z))]
      show _ = (ky (if p.1 = k then (p.1, p.2 + v) else p).1, V.int (((if p.1 = k then (p.1, p.2 + v) else p).2 : Nat) : Int))
      rw [if_neg h]
def zipI (w r : List Nat) : List Int := List.zipWith (fun (x y : Nat) => (x : Int) - (y : Int)) w r
theorem zipI_fits : ∀ {w r : List Nat}, w.length = r.length → (fitsB w r = true ↔ ∀ z ∈ zipI w r, 0 ≤ z)
  | [], [], _ => ⟨fun _ z hz => (by cases hz), fun _ => rfl⟩
  | [], _ :: _, h => by cases h
  | _ :: _, [], h => by cases h
  | x :: w, y :: r, h => by
    have ih := zipI_fits (w := w) (r := r) (Nat.succ.inj h)
    show (decide (y ≤ x) && fitsB w r) = true ↔ ∀ z ∈ ((x : Int) - (y : Int)) :: zipI w r, 0 ≤ z
    rw [Bool.and_eq_true, decide_eq_true_iff, ih]
    constructor
    · rintro ⟨h1, h2⟩ z hz
      rcases List.mem_cons.mp hz with rfl | hz
      · omega
      · exact h2 z hz
    · intro k
      have := k _ (.head _)
      exact ⟨by omega, fun z hz => k z (.tail _ hz)⟩
theorem zipI_zs : ∀ {w r : List Nat}, w.length = r.length → fitsB w r = true → zipI w r = zs (List.zipWith (fun x y => x - y) w r)
  | [], [], _, _ => rfl
  | [], _ :: _, h, _ => by cases h
  | _ :: _, [], h, _ => by cases h
  | x :: w, y :: r, h, f => by
    have f : (decide (y ≤ x) && fitsB w r) = true := f
    rw [Bool.and_eq_true, decide_eq_true_iff] at f
    show ((x : Int) - (y : Int)) :: zipI w r = ((x - y : Nat) : Int) :: zs _
    rw [zipI_zs (Nat.succ.inj h) f.2]
    congr 1
    omega
theorem zipI_len {w r : List Nat} (h : w.length = r.length) : (zipI w r).length = w.length := by
  show (List.zipWith _ w r).length = _
  rw [List.length_zipWith, ← h, Nat.min_self]
theorem zipI_at {w r : List Nat} {i x y : Nat} (h1 : w[i]? = some x) (h2 : r[i]? = some y) : (zipI w r)[i]? = some ((x : Int) - (y : Int)) := by
  show (List.zipWith _ w r)[i]? = _
  rw [List.getElem?_zipWith, h1, h2]
section
variable {P : Program} {w : World} {K : PySem.W.Frag} {mg : Str → Option Value} {base : Heap} {a : Ads}
def sp_entries_of : Sp := fun vs H Q _ => ∃ b n : Nat, vs = [.int (b : Int), .int (n : Int)] ∧ n ≤ 6 ∧ ∀ (H' : Hp) (q : Addr), Same H H' → H q = none → H' q = some (.lst (iv (entr n b))) → Q (.ref q) H'
theorem sc_entries_of : FnScope ["bits", "columns", "c"] ["bits", "columns"] (defScope s_entries_of) := ⟨rfl, rfl, rfl, by decide +kernel, rfl, by decide +kernel, by decide +kernel⟩
theorem bit_int (b c : Nat) : Builtin.bitAnd ((b : Int) / 2 ^ c) 1 = ((b / 2 ^ c % 2 : Nat) : Int) := by
  have h : (0 : Int) ≤ (b : Int) / 2 ^ c := Int.ediv_nonneg (by omega) (two_pow_nn c)
  have e := Bits.bitAnd_mask 1 h
  rw [show (2 : Int) ^ 1 - 1 = 1 by decide, show (2 : Int) ^ 1 = 2 by decide] at e
  rw [e]
  have e2 : ((2 : Int) ^ c) = ((2 ^ c : Nat) : Int) := by rw [Int.natCast_pow]; rfl
  rw [e2, ← Int.natCast_ediv]
  omega
theorem ok_entries_of (T : Txt K mg a) : FnOk P w K mg base CX0 1 a.entries_of.a a.entries_of.d ["bits", "columns"] sp_entries_of := by
  refine T.entries_of.F.ok sc_entries_of (fun vs H Q E h => ?_) (fun cdv A outer s H vs Q E hr h => ?_)
  · obtain ⟨b, n, rfl, _⟩ := h
    rfl
  · obtain ⟨b, n, rfl, hn, k⟩ := h
    have B1 : BlkOk ["bits", "columns", "c"] (defScope s_entries_of) (lcSc [("c", .local), ("bits", .free)]) [("c", 2)] := blkOk_by (by decide +kernel)
    refine ⟨_, pss_one (ps_ret (pe_lc (own := [("c", 2)]) rfl sc_entries_of.nd (pi_range1 rfl T.range (pa_cons (pv 1) pa_nil)) B1 (fun _ _ _ _ _ => pg_name (i := 2) sc_entries_of.nd rfl (Or.inl rfl)) (fun _ _ _ _ _ => pts_nil) (fun _ _ _ _ _ => pe_op op_and (pe_op op_shr (pv 0) (pv 2)) pe_int))), ?_⟩
    refine ⟨_, rfl, _, rfl, by omega, by omega, fun D hD => lc_range (Acc H D fun i => iv (entr i b)) (Acc.zero hD rfl) (fun i H' hi A => ?_) fun H1 A1 => ?_⟩
    · refine ⟨rfl, _, rfl, _, rfl, _, _, rfl, rfl, (by show (0 : Int) ≤ 0 + (i : Int); omega), _, _, rfl, rfl, A.add hD (Same.refl H') (line_lt (by rw [iv_len]; unfold entr; rw [List.length_map, List.length_range]; omega)) ?_⟩
      have e : (0 + (i : Int)).toNat = i := by omega
      rw [e]
      show iv (entr (i + 1) b) = iv (entr i b) ++ [V.int (Builtin.bitAnd ((b : Int) / 2 ^ i) 1)]
      rw [bit_int]
      unfold entr
      rw [List.range_succ, List.map_append, List.map_singleton, iv_snoc]
    · have e : ((n : Nat) : Int).toNat = n := by omega
      rw [e] at A1
      exact k H1 D A1.sm hD A1.at_
def sp_lines_with : Sp := fun vs H Q _ => ∃ (r : Nat) (l : Addr) (as : List Addr) (rs : List (List Nat)), vs = [.int (r : Int), .ref l] ∧ LstAt H l as rs ∧ rs.length ≤ 1000 ∧
  ∀ (H' : Hp) (q : Addr) (as' : List Addr), Same H H' → H q = none → LstAt H' q as' (rs.filter fun b => b.sum == r) → Q (.ref q) H'
theorem sc_lines_with : FnScope ["ones", "lines", "entries"] ["ones", "lines"] (defScope s_lines_with) := ⟨rfl, rfl, rfl, by decide +kernel, rfl, by decide +kernel, by decide +kernel⟩
theorem ok_lines_with (T : Txt K mg a) : FnOk P w K mg base CX0 1 a.lines_with.a a.lines_with.d ["ones", "lines"] sp_lines_with := by
  refine T.lines_with.F.ok sc_lines_with (fun vs H Q E h => ?_) (fun cdv A outer s H vs Q E hr h => ?_)
  · obtain ⟨r, l, as, rs, rfl, _⟩ := h
    rfl
  · obtain ⟨r, l, as, rs, rfl, L, hl, k⟩ := h
    have B1 : BlkOk ["ones", "lines", "entries"] (defScope s_lines_with) (lcSc [("entries", .local), ("sum", .globalImplicit), ("ones", .free)]) [("entries", 2)] := blkOk_by (by decide +kernel)
    refine ⟨_, pss_one (ps_ret (pe_lc (own := [("entries", 2)]) rfl sc_lines_with.nd (pi_list (pv 1)) B1 (fun _ _ _ _ _ => pg_name (i := 2) sc_lines_with.nd rfl (Or.inl rfl)) (fun _ _ _ _ _ => pts_one (pt_cmpR op_eq (pe_callB (sumK K rfl) (by rfl) T.sum boot_sum (pa_cons (pv 2) pa_nil)) (pv 0) (nomark _))) (fun _ _ _ _ _ => pv 2))), ?_⟩
    refine ⟨_, rfl, l, rfl, ⟨_, SqL.of L.lst⟩, fun D hD => lc_list (K := K) (xs := as.map V.ref) (Rows H D fun i => (rs.take i).filter fun b => b.sum == r) (Rows.zero hD rfl) (fun i H' _ R => SqL.of (R.sm _ _ L.lst)) (fun i v H' hv R => ?_) fun H1 R1 => ?_⟩
    · obtain ⟨b, hb, rfl⟩ := refs_at' hv
      obtain ⟨row, h1, h2⟩ := L.row i b hb
      have h3 := R.sm _ _ h2
      have et : rs.take (i + 1) = rs.take i ++ [row] := by rw [List.take_add_one, h1]; rfl
      refine ⟨rfl, _, rfl, b, zs row, rfl, SqL.of h3, _, rfl, rfl, _, rfl, ite2 (fun q => ?_) (fun q => ?_)⟩
      · rw [dec_vint, zs_sum] at q
        have q := of_decide_eq_true q
        refine ⟨_, rfl, R.add hD (Same.refl H') ?_ h3 (ne_of_none h2 hD) ?_⟩
        · have z1 := List.length_filter_le (fun b => b.sum == r) (rs.take i)
          have z2 : (rs.take i).length ≤ rs.length := List.length_take_le' _ _
          exact line_lt (by omega)
        · show (rs.take (i + 1)).filter _ = _
          rw [et, List.filter_append, List.filter_cons, if_pos (beq_iff_eq.mpr (by omega)), List.filter_nil]
      · rw [dec_vint, zs_sum] at q
        refine R.skip (Same.refl H') ?_
        show (rs.take (i + 1)).filter _ = _
        rw [et, List.filter_append, List.filter_cons, if_neg (fun z => q (decide_eq_true (by have := beq_iff_eq.mp z; omega))), List.filter_nil, List.append_nil]
    · rw [List.length_map, L.len] at R1
      obtain ⟨as', L', _⟩ := R1.ex
      rw [List.take_of_length_le (Nat.le_refl _)] at L'
      exact k H1 D as' R1.sm hD L'
def sp_ways_behind : Sp := fun vs H Q _ => ∃ (d l : Addr) (as : List Addr) (n : Nat) (D : Ways) (rs : List (List Nat)), vs = [.ref d, .ref l] ∧ H d = some (.dT (dk D)) ∧ LstAt H l as rs ∧ 1 ≤ n ∧ n ≤ 6 ∧ WOk n D ∧ (∀ b ∈ rs, b.length = n) ∧
  ∀ (H' : Hp) (q : Addr), Same H H' → H q = none → H' q = some (.dT (dk (behindW D rs))) → Q (.ref q) H'
theorem sc_ways_behind : FnScope ["ways", "lines", "behind", "wants", "entries", "left", "want", "entry"] ["ways", "lines"] (defScope s_ways_behind) := ⟨rfl, rfl, rfl, by decide +kernel, rfl, by decide +kernel, by decide +kernel⟩
theorem fold_snoc {α β : Type} (f : β → α → β) (z : β) {l : List α} {i : Nat} {x : α} (h : l[i]? = some x) : (l.take (i + 1)).foldl f z = f ((l.take i).foldl f z) x := by
  rw [List.take_add_one, h]
  show ((l.take i) ++ [x]).foldl f z = _
  rw [List.foldl_append]
  rfl
theorem wok_part {n : Nat} {rs : List (List Nat)} (hb : ∀ b ∈ rs, b.length = n) : ∀ {ways D : Ways}, WOk n D → (∀ k ∈ ways.map (·.1), k.length = n ∧ ∀ x ∈ k, x ≤ 6) → WOk n (ways.foldl (fun D p => rs.foldl (lineW p.1 p.2) D) D)
  | [], _, o, _ => o
  | p :: ways, D, o, h => wok_part hb (ways := ways) (WOk.lines (v := p.2) (h p.1 (.head _)).1 (h p.1 (.head _)).2 o hb) fun k hk => h k (.tail _ hk)
theorem ok_ways_behind (T : Txt K mg a) : FnOk P w K mg base CX0 1 a.ways_behind.a a.ways_behind.d ["ways", "lines"] sp_ways_behind := by
  refine T.ways_behind.F.ok sc_ways_behind (fun vs H Q E h => ?_) (fun cdv A outer s H vs Q E hr h => ?_)
  · obtain ⟨d, l, as, n, D, rs, rfl, _⟩ := h
    rfl
  · obtain ⟨d, l, as, n, W, rs, rfl, hd, L, n1, n6, o, hrs, k⟩ := h
    have hu := hu_of hr
    have B1 : BlkOk ["ways", "lines", "behind", "wants", "entries", "left", "want", "entry"] (defScope s_ways_behind) (lcSc [("want", .local), ("entry", .local)]) [("want", 6), ("entry", 7)] := blkOk_by (by decide +kernel)
    refine ⟨_, pss_cons (ps_set (i := 2) sc_ways_behind.nd rfl (Or.inl rfl) pe_dnewT)
      (pss_cons (ps_lock (ps_for PassesOwn.never rfl (pi_keys (pv 0)) (pg_name (i := 3) sc_ways_behind.nd rfl (Or.inl rfl)) (pss_one (ps_for PassesOwn.never rfl (pi_list (pv 1)) (pg_name (i := 4) sc_ways_behind.nd rfl (Or.inl rfl))
        (pss_cons (ps_set (i := 5) sc_ways_behind.nd rfl (Or.inl rfl) (pe_callTy call_tuple_of (by rfl) T.tuple PyProof.Rows.boot_tuple (pa_cons (pe_callB cr_sorted (by rfl) T.sorted boot_sorted (pa_cons (pe_lc (own := [("want", 6), ("entry", 7)]) rfl sc_ways_behind.nd (pi_zipT rfl T.zip (pa_cons (pv 3) (pa_cons (pv 4) pa_nil))) B1
            (fun _ _ _ _ _ => tupK K 2 rfl (pgs_cons (pg_name (i := 6) sc_ways_behind.nd rfl (Or.inl rfl) (Or.inr rfl)) (pgs_cons (pg_name (i := 7) sc_ways_behind.nd rfl (Or.inl rfl) (Or.inr rfl)) pgs_nil))) (fun _ _ _ _ _ => pts_nil) (fun _ _ _ _ _ => pe_op op_sub (pv 6) (pv 7))) pa_nil)) pa_nil)))
        (pss_one (ps_if (pt_cmpR op_ge (pe_ix ix_tup (pv 5) pe_int (fun _ _ => rfl)) pe_int (nomark _)) (pss_one (ps_dput hu (pv 2) (pv 5) (pe_op op_add (pe_dget2 hu (pv 2) (pv 5) pe_int ⟨rfl, rfl, rfl, rfl⟩) (pe_dget hu (pv 0) (pv 3) (fun _ _ => rfl))) rfl)) pss_nil)))))))
      (pss_one (ps_ret (pv 2)))), ?_⟩
    intro bh hbh
    have s0 : Same H (L2.upd H bh (.dT [])) := same_new hbh
    have hd1 := s0 _ _ hd
    have ndb : d ≠ bh := ne_of_none hd hbh
    refine ⟨d, _, hd1, trivial, fun od => ?_⟩
    generalize eHL : L2.upd (L2.upd H bh (.dT [])) d (.frz od (.dT (dk W))) = HL
    have hLd : HL d = some (.frz od (.dT (dk W))) := by rw [← eHL]; exact upd_same
    have hLb : HL bh = some (.dT []) := by rw [← eHL, upd_ne (Ne.symm ndb)]; exact upd_same
    have hLo : ∀ b u, H b = some u → b ≠ d → HL b = some u := fun b u e hb => by rw [← eHL, upd_ne hb]; exact s0 _ _ e
    have hlL : HL l = some (.lst (as.map V.ref)) := hLo _ _ L.lst (ne_of L.lst hd (fun z => nomatch z))
    refine ⟨_, rfl, d, od, rfl, .inr ⟨_, hLd, for_keysT (kvs := dk W)
      (fun i σ H' => ∃ x y z : Option V, σ = [some (.ref d), some (.ref l), some (.ref bh), x, y, z, none, none] ∧ H' bh = some (.dT (dk ((W.take i).foldl (fun D p => rs.foldl (lineW p.1 p.2) D) []))) ∧ ∀ b u, HL b = some u → b ≠ bh → H' b = some u)
      ⟨none, none, none, rfl, hLb, fun _ _ e _ => e⟩ (fun i σ H' _ ⟨_, _, _, _, _, sm⟩ => sm _ _ hLd ndb) ?_ ?_⟩⟩
    · rintro i kq vq q σ H' hk hq ⟨x, y, z, rfl, hbh', sm⟩
      obtain ⟨⟨kw, vw⟩, hW, ekv⟩ : ∃ p : List Nat × Nat, W[i]? = some p ∧ (ky p.1, V.int (p.2 : Int)) = (kq, vq) := by
        unfold dk at hk
        rw [List.getElem?_map] at hk
        cases e : W[i]? with
        | none => rw [e] at hk; cases hk
        | some p => rw [e] at hk; exact ⟨p, rfl, Option.some.inj hk⟩
      obtain ⟨rfl, rfl⟩ := Prod.mk.inj ekv
      rw [ky_iv] at hq
      obtain ⟨lw, kw6⟩ := o.key kw (List.mem_map.mpr ⟨_, List.mem_of_getElem? hW, rfl⟩)
      have hd' := sm _ _ hLd ndb
      have nqb : q ≠ bh := ne_of hq hbh' (fun z => nomatch z)
      have oW : ∀ j, WOk n ((rs.take j).foldl (lineW kw vw) ((W.take i).foldl (fun D p => rs.foldl (lineW p.1 p.2) D) [])) := fun j =>
        WOk.lines lw kw6 (wok_part hrs (WOk.nil n) fun k hk => o.key k (List.mem_map.mpr (let ⟨p, hp, e⟩ := List.mem_map.mp hk; ⟨p, List.mem_of_mem_take hp, e⟩))) fun b hb => hrs b (List.mem_of_mem_take hb)
      generalize eD0 : (W.take i).foldl (fun D p => rs.foldl (lineW p.1 p.2) D) [] = D0 at hbh' oW
      refine ⟨_, rfl, l, rfl, ⟨_, SqL.of (sm _ _ hlL (ne_of hlL hLb (fun z => nomatch z)))⟩, for_list (K := K) (xs := as.map V.ref)
        (fun j σ H'' => ∃ y z : Option V, σ = [some (.ref d), some (.ref l), some (.ref bh), some (.ref q), y, z, none, none] ∧ H'' bh = some (.dT (dk ((rs.take j).foldl (lineW kw vw) D0))) ∧ ∀ b u, H' b = some u → b ≠ bh → H'' b = some u)
        ⟨y, z, rfl, hbh', fun _ _ e _ => e⟩ (fun j σ H'' _ ⟨_, _, _, _, sm'⟩ => SqL.of (sm' _ _ (sm _ _ hlL (ne_of hlL hLb (fun z => nomatch z))) (ne_of hlL hLb (fun z => nomatch z)))) ?_ ?_⟩
      · rintro j v σ H2 hv ⟨y, z, rfl, hb2, sm'⟩
        obtain ⟨b, hb, rfl⟩ := refs_at' hv
        obtain ⟨row, hr1, hr2⟩ := L.row j b hb
        have lrow : row.length = n := hrs row (List.mem_of_getElem? hr1)
        have nbb : b ≠ bh := ne_of_none hr2 hbh
        have hb3 : H2 b = some (.lst (iv row)) := sm' _ _ (sm _ _ (hLo _ _ hr2 (ne_of hr2 hd (fun z => nomatch z))) nbb) nbb
        have hq2 := sm' _ _ hq nqb
        have hd2 := sm' _ _ hd' ndb
        have elen : kw.length = row.length := by rw [lw, lrow]
        -- the columns' rest
        refine ⟨_, rfl, _, rfl, q, b, _, _, rfl, SqT.of hq2, SqL.of hb3, fun Dl hDl => lc_zipT (K := K) (xs := iv kw) (ys := iv row) (Acc H2 Dl fun i => ((zipI kw row).take i).map V.int) (by rw [iv_len, iv_len, elen]) (Acc.zero hDl rfl)
          (fun i H3 _ A => ⟨SqT.of (A.sm _ _ hq2), SqL.of (A.sm _ _ hb3)⟩) (fun i x y H3 t hx hy A ht => ?_) fun H3 A3 => ?_⟩
        · obtain ⟨n1', e1, rfl⟩ := iv_of hx
          obtain ⟨n2', e2, rfl⟩ := iv_of hy
          refine ⟨t, _, rfl, SqT.of upd_same, rfl, _, _, rfl, _, _, rfl, rfl, rfl, _, rfl, _, rfl, _, _, rfl, rfl, A.add hDl (same_new ht) (line_lt (by rw [List.length_map, List.length_take, zipI_len elen]; omega)) ?_⟩
          show ((zipI kw row).take (i + 1)).map V.int = _
          rw [List.take_add_one, zipI_at e1 e2, List.map_append]
          rfl
        · have a3 : H3 Dl = some (.lst ((zipI kw row).map V.int)) := by
            have z := A3.at_
            rw [iv_len, List.take_of_length_le (by rw [zipI_len elen]; exact Nat.le_refl _)] at z
            exact z
          refine ⟨Dl, zipI kw row, rfl, SqL.of a3, by rw [zipI_len elen]; omega, fun ns' sp hp hpw hsp => ⟨sp, _, rfl, .inl ⟨SqL.of upd_same, fun tu htu => ?_⟩⟩⟩
          have s4 := A3.sm.trans ((same_new (o := .lst (ns'.map V.int)) hsp).trans (same_new (o := .tup (ns'.map V.int)) htu))
          have a4 : (L2.upd (L2.upd H3 sp (.lst (ns'.map V.int))) tu (.tup (ns'.map V.int))) tu = some (.tup (ns'.map V.int)) := upd_same
          generalize L2.upd (L2.upd H3 sp (.lst (ns'.map V.int))) tu (.tup (ns'.map V.int)) = H4 at s4 a4
          obtain ⟨z0, ns1, rfl⟩ : ∃ z0 ns1, ns' = z0 :: ns1 := by
            cases ns' with
            | nil =>
              have := hp.length_eq
              rw [zipI_len elen] at this
              simp at this
              omega
            | cons z0 ns1 => exact ⟨z0, ns1, rfl⟩
          have hb4 := s4 _ _ hb2
          refine ⟨_, rfl, tu, _, _, _, rfl, rfl, SqT.of a4, atI_nat (j := 0) rfl, _, _, rfl, rfl, _, rfl, ite2 (fun q0 => ?_) (fun q0 => ?_)⟩
          · have q0 := of_decide_eq_true q0
            have hf : fitsB kw row = true := (zipI_fits elen).mpr fun z hz => by
              rcases List.mem_cons.mp (hp.mem_iff.mpr hz) with rfl | hz
              · exact q0
              · exact Int.le_trans q0 ((List.pairwise_cons.mp hpw).1 z hz)
            have en : z0 :: ns1 = zs (asc (List.zipWith (fun x y => x - y) kw row)) := asc_of (by rw [← zipI_zs elen hf]; exact hp) hpw
            have a5 : H4 tu = some (.tup ((ky (asc (List.zipWith (fun x y => x - y) kw row))).map kV)) := by rw [ky_iv, a4, en]
            have oj := oW j
            have hfew := oj.few n6
            have hq4 := s4 _ _ hq2
            have hd4 := s4 _ _ hd2
            refine ⟨_, rfl, bh, rfl, .inr ⟨_, .inl hb4⟩, _, rfl, _, DGet.t hb4 a5, ?_⟩
            rw [dk_val]
            have e0 : ((getW ((rs.take j).foldl (lineW kw vw) D0) (asc (List.zipWith (fun x y => x - y) kw row))).map fun (v : Nat) => V.int (v : Int)).getD (V.int 0) = V.int (((getW ((rs.take j).foldl (lineW kw vw) D0) (asc (List.zipWith (fun x y => x - y) kw row))).getD 0 : Nat) : Int) := by
              cases getW ((rs.take j).foldl (lineW kw vw) D0) (asc (List.zipWith (fun x y => x - y) kw row)) <;> rfl
            rw [e0]
            have hg : valV (dk W) (ky kw) = some (V.int (vw : Int)) := by rw [dk_val, getW_of o.nd (List.mem_of_getElem? hW)]; rfl
            refine ⟨_, rfl, _, rfl, d, V.int (vw : Int), rfl, .inr ⟨dk W, ky kw, q, .inr ⟨od, hd4⟩, rfl, by rw [ky_iv]; exact hq4, hg.symm⟩, _, _, rfl, rfl, ?_⟩
            refine ⟨_, rfl, _, rfl, bh, _, rfl, DPut.t hb4 a5 (by rw [dk_len, sizeLine_eq]; omega), _, _, rfl, ?_, fun b' u' e' hb' => ?_⟩
            · rw [upd_same, dk_put _ _ _ oj.nd, fold_snoc _ _ hr1]
              unfold lineW
              rw [if_pos hf]
            · rw [upd_ne hb']
              exact s4 _ _ (sm' _ _ e' hb')
          · have hf : fitsB kw row = false := by
              cases e : fitsB kw row with
              | false => rfl
              | true => exact absurd (decide_eq_true ((zipI_fits elen).mp e z0 (hp.mem_iff.mp (.head _)))) q0
            refine ⟨_, _, rfl, ?_, fun b' u' e' hb' => s4 _ _ (sm' _ _ e' hb')⟩
            rw [hb4, fold_snoc _ _ hr1]
            unfold lineW
            rw [if_neg (by rw [hf]; decide)]
      · rintro σ H2 ⟨y, z, rfl, hb2, sm'⟩
        refine ⟨_, _, _, rfl, ?_, fun b' u' e' hb' => sm' _ _ (sm _ _ e' hb') hb'⟩
        rw [List.length_map, L.len, List.take_of_length_le (Nat.le_refl _)] at hb2
        rw [hb2, fold_snoc _ _ hW, eD0]
    · rintro σ H' ⟨x, y, z, rfl, hbh', sm⟩
      rw [dk_len, List.take_of_length_le (Nat.le_refl _)] at hbh'
      refine ⟨sm _ _ hLd ndb, _, rfl, k _ bh (fun b u e => ?_) hbh (by rw [upd_ne (Ne.symm ndb)]; exact hbh')⟩
      by_cases hb : b = d
      · rw [hb, hd] at e
        cases e
        rw [hb]
        exact upd_same
      · rw [upd_ne hb]
        exact sm _ _ (hLo _ _ e hb) (ne_of_none e hbh)
end
end Ev
end
section
set_option Elab.async false
set_option linter.all false
set_option autoImplicit false
set_option maxRecDepth 100000
set_option maxHeartbeats 4000000
namespace Ev
open PySem PySem.Spec PyProof.Rows L2
section
variable {P : Program} {w : World} {K : PySem.W.Frag} {mg : Str → Option Value} {base : Heap} {a : Ads}
def sp_count_tables (K : PySem.W.Frag) : Sp := fun vs H Q _ => ∃ (b c : Addr) (x y : List Nat), vs = [.ref b, .ref c] ∧ SqL K H b (iv x) ∧ SqL K H c (iv y) ∧ 1 ≤ y.length ∧ y.length ≤ 6 ∧ (∀ n ∈ y, n ≤ 6) ∧ ∀ H', Same H H' → Q (.int ((cnt x y : Nat) : Int)) H'
theorem sc_count_tables : FnScope ["line_sums", "column_sums", "columns", "lines", "ways", "ones", "bits"] ["line_sums", "column_sums"] (defScope s_count_tables) := ⟨rfl, rfl, rfl, by decide +kernel, rfl, by decide +kernel, by decide +kernel⟩
theorem rep_zero (n : Nat) : (List.replicate n [V.int 0]).flatten = iv (List.replicate n 0) := by
  induction n with
  | zero => rfl
  | succ n ih =>
    rw [List.replicate_succ, List.flatten_cons, ih]
    rfl
theorem ok_count_tables (T : Txt K mg a) : FnOk P w K mg base CX0 2 a.count_tables.a a.count_tables.d ["line_sums", "column_sums"] (sp_count_tables K) := by
  have G1 : FnOk P w K mg base CX0 1 a.entries_of.a a.entries_of.d ["bits", "columns"] sp_entries_of := ok_entries_of T
  have G2 : FnOk P w K mg base CX0 1 a.lines_with.a a.lines_with.d ["ones", "lines"] sp_lines_with := ok_lines_with T
  have G3 : FnOk P w K mg base CX0 1 a.ways_behind.a a.ways_behind.d ["ways", "lines"] sp_ways_behind := ok_ways_behind T
  refine T.count_tables.F.ok sc_count_tables (fun vs H Q E h => ?_) (fun cdv A outer s H vs Q E hr h => ?_)
  · obtain ⟨b, c, x, y, rfl, _⟩ := h
    rfl
  · obtain ⟨b, c, x, y, rfl, h1, h2, y1, y6, hy6, k⟩ := h
    have hu := hu_of hr
    have B1 : BlkOk ["line_sums", "column_sums", "columns", "lines", "ways", "ones", "bits"] (defScope s_count_tables) (lcSc [("bits", .local), ("entries_of", .globalImplicit), ("columns", .free)]) [("bits", 6)] := blkOk_by (by decide +kernel)
    refine ⟨_, pss_cons (ps_set (i := 2) sc_count_tables.nd rfl (Or.inr rfl) (pe_callB call_len_seq (by rfl) T.len PySem.boot_len (pa_cons (pv 1) pa_nil)))
      (pss_cons (ps_setLc (i := 3) (own := [("bits", 6)]) rfl sc_count_tables.nd rfl rfl (sw_true rfl rfl rfl rfl) (pi_range1 rfl T.range (pa_cons (pe_op op_shl pe_int (pv 2)) pa_nil)) B1
        (fun _ _ _ _ _ => pg_name (i := 6) sc_count_tables.nd rfl (Or.inl rfl)) (fun _ _ _ _ _ => pts_nil) (fun _ _ _ _ _ => pe_call G1 hr rfl T.entries_of.m T.entries_of.k T.entries_of.b .nil pass0 (pa_cons (pv 6) (pa_cons (pv 2) pa_nil))))
      (pss_cons (ps_set (i := 4) sc_count_tables.nd rfl (Or.inl rfl) (pe_dispT (Nat.lt_of_succ_lt hu) (pe_callTy call_tuple_of (by rfl) T.tuple PyProof.Rows.boot_tuple (pa_cons (pe_callB cr_sorted (by rfl) T.sorted boot_sorted (pa_cons (pv 1) pa_nil)) pa_nil)) pe_int))
      (pss_cons (ps_for PassesOwn.never rfl (pi_list (pv 0)) (pg_name (i := 5) sc_count_tables.nd rfl (Or.inl rfl)) (pss_one (ps_set (i := 4) sc_count_tables.nd rfl (Or.inl rfl) (pe_call G3 hr rfl T.ways_behind.m T.ways_behind.k T.ways_behind.b .nil pass0 (pa_cons (pv 4) (pa_cons (pe_call G2 hr rfl T.lines_with.m T.lines_with.k T.lines_with.b .nil pass0 (pa_cons (pv 5) (pa_cons (pv 3) pa_nil))) pa_nil))))))
      (pss_one (ps_ret (pe_dget2 hu (pv 4) (pe_callTy call_tuple_of (by rfl) T.tuple PyProof.Rows.boot_tuple (pa_cons (pe_op op_rep (pe_lst (pa_cons pe_int pa_nil)) (pv 2)) pa_nil)) pe_int ⟨rfl, rfl, rfl, rfl⟩)))))), ?_⟩
    have en : (((iv y).length : Nat) : Int) = ((y.length : Nat) : Int) := by rw [iv_len]
    refine ⟨_, rfl, c, _, rfl, .inl h2, ?_⟩
    rw [en]
    -- the lines
    have hp : (1 : Int) * 2 ^ (((y.length : Nat) : Int)).toNat = ((2 ^ y.length : Nat) : Int) := by
      rw [Int.toNat_natCast, Int.one_mul, Int.natCast_pow]
      rfl
    have h64 : 2 ^ y.length ≤ 64 := by
      have := Nat.pow_le_pow_right (n := 2) (by decide) y6
      exact Nat.le_trans this (by decide)
    refine ⟨_, rfl, _, _, rfl, rfl, ⟨by omega, by omega, by decide⟩, _, rfl, by rw [hp]; generalize 2 ^ y.length = m at h64 ⊢; omega, by rw [hp]; generalize 2 ^ y.length = m at h64 ⊢; omega, ?_⟩
    rw [hp, Int.toNat_natCast]
    refine fun D hD => lc_range (n := 2 ^ y.length) (Rows H D fun i => (List.range i).map (entr y.length)) (Rows.zero hD rfl) (fun i H' hi R => ?_) fun H1 R1 => ?_
    · refine ⟨rfl, _, rfl, _, rfl, i, y.length, by rw [show (0 : Int) + ((i : Nat) : Int) = (i : Int) by omega]; rfl, y6, fun H2 q s2 hq hq2 => ?_⟩
      have hDH : H' D ≠ none := fun z => by
        obtain ⟨as, L, _⟩ := R.ex
        rw [L.lst] at z
        cases z
      refine R.add hD s2 (line_lt (by rw [List.length_map, List.length_range]; omega)) hq2 (fun z => hDH (z ▸ hq)) ?_
      show (List.range (i + 1)).map _ = _
      rw [List.range_succ, List.map_append]
      rfl
    · obtain ⟨al, L1, nD⟩ := R1.ex
      rw [lines_bits] at L1
      have s1 := R1.sm
      -- the first ways
      intro wd hwd
      have s2 := s1.trans (same_new (o := .dT []) hwd)
      refine ⟨_, rfl, c, zs y, rfl, s2.seq h2, by rw [zs_len]; omega, fun ns' sp hpm hpw hsp => ⟨sp, _, rfl, .inl ⟨SqL.of upd_same, fun tu htu => ?_⟩⟩⟩
      have ea := asc_of hpm hpw
      subst ea
      have t1 : Same (L2.upd H1 wd (.dT [])) (L2.upd (L2.upd (L2.upd H1 wd (.dT [])) sp (.lst (iv (asc y)))) tu (.tup (iv (asc y)))) := (same_new hsp).trans (same_new htu)
      have a1 : (L2.upd (L2.upd (L2.upd H1 wd (.dT [])) sp (.lst (iv (asc y)))) tu (.tup (iv (asc y)))) tu = some (.tup ((ky (asc y)).map kV)) := by rw [ky_iv]; exact upd_same
      have a2 := t1 _ _ (upd_same (H := H1) (a := wd) (o := .dT []))
      refine ⟨tu, ky (asc y), rfl, a1, a2, ?_⟩
      have s3 : Same H1 (L2.upd (L2.upd (L2.upd (L2.upd H1 wd (.dT [])) sp (.lst (iv (asc y)))) tu (.tup (iv (asc y)))) wd (.dT [(ky (asc y), V.int 1)])) := fun b' o' e' => by
        rw [upd_ne (ne_of_none e' hwd)]
        exact t1 _ _ ((same_new hwd) _ _ e')
      have a3 : (L2.upd (L2.upd (L2.upd (L2.upd H1 wd (.dT [])) sp (.lst (iv (asc y)))) tu (.tup (iv (asc y)))) wd (.dT [(ky (asc y), V.int 1)])) wd = some (.dT (dk (ways0 y))) := upd_same
      have s4 := s1.trans s3
      have L2' := L1.mono s3
      generalize L2.upd (L2.upd (L2.upd (L2.upd H1 wd (.dT [])) sp (.lst (iv (asc y)))) tu (.tup (iv (asc y)))) wd (.dT [(ky (asc y), V.int 1)]) = H2 at s3 a3 s4 L2'
      refine ⟨_, rfl, b, rfl, ⟨_, s4.seq h1⟩, for_list (K := K) (xs := iv x)
        (fun i σ H' => ∃ (u : Addr) (z : Option V) (W : Ways), σ = [some (.ref b), some (.ref c), some (.int ((y.length : Nat) : Int)), some (.ref D), some (.ref u), z, none] ∧ H' u = some (.dT (dk W)) ∧ WOk y.length W ∧ wsum W (cnt (x.drop i)) = cnt x y ∧ Same H2 H')
        ⟨wd, none, ways0 y, rfl, a3, ways0_ok hy6, ways0_sum x y, Same.refl H2⟩ (fun i σ H' _ ⟨_, _, _, _, _, _, _, sm⟩ => sm.seq (s4.seq h1)) ?_ ?_⟩
      · rintro i v σ H' hv ⟨u, z, W, rfl, hu', oW, eW, sm⟩
        obtain ⟨r, hr', rfl⟩ := iv_of hv
        have Lm := L2'.mono sm
        refine ⟨_, rfl, _, rfl, _, rfl, r, D, al, _, rfl, Lm, by rw [← lines_bits, List.length_map, List.length_range]; omega, fun H3 q aq s5 hq Lq => ?_⟩
        refine ⟨u, q, aq, y.length, W, _, rfl, s5 _ _ hu', Lq, y1, y6, oW, fun b' hb' => bits_len _ (List.mem_filter.mp hb').1, fun H4 q2 s6 hq2 hd => ?_⟩
        refine ⟨q2, _, behindW W (withOnes r y.length), rfl, hd, behind_ok oW, ?_, sm.trans (s5.trans s6)⟩
        rw [behind_sum oW]
        have ed : x.drop i = r :: x.drop (i + 1) := by
          obtain ⟨hlt, e⟩ := List.getElem?_eq_some_iff.mp hr'
          rw [List.drop_eq_getElem_cons hlt, e]
        rw [← ed]
        exact eW
      · rintro σ H' ⟨u, z, W, rfl, hu', oW, eW, sm⟩
        rw [iv_len, List.drop_of_length_le (Nat.le_refl _), ways_end oW] at eW
        refine ⟨_, rfl, u, rfl, .inr ⟨_, .inl hu'⟩, (by show 1 ≤ sizeLine; decide), fun l0 hl0 => ⟨_, rfl, l0, _, _, rfl, rfl, upd_same, by omega, by omega, by show 1 * _ ≤ _; rw [sizeLine_eq]; omega, fun l1 hl1 => ⟨l1, _, rfl, .inl ⟨SqL.of upd_same, fun tz htz => ?_⟩⟩⟩⟩
        rw [Int.toNat_natCast]
        have s5 := (same_new (o := .lst [V.int 0]) hl0).trans ((same_new (o := .lst (List.replicate y.length [V.int 0]).flatten) hl1).trans (same_new (o := .tup (List.replicate y.length [V.int 0]).flatten) htz))
        refine ⟨_, DGet.t (k := ky (List.replicate y.length 0)) (s5 _ _ hu') (by rw [ky_iv, ← rep_zero]; exact upd_same), ?_⟩
        rw [dk_val]
        have e0 : ((getW W (List.replicate y.length 0)).map fun (v : Nat) => V.int (v : Int)).getD (V.int 0) = V.int ((cnt x y : Nat) : Int) := by
          rw [← eW]
          cases getW W (List.replicate y.length 0) <;> rfl
        rw [e0]
        exact k _ (s4.trans (sm.trans s5))
def sp_tell_count (C : Addr) : Sp := fun vs H Q _ => ∃ (p l : Addr) (as : List Addr) (s : Rc94.Abs) (i j : Int), vs = [.ref p, .int i, .int j] ∧ RowsAt C H p l as s.rows ∧ Good s ∧ Out C H p l as (Rc94.does s (.count i j)) Q
theorem sc_tell_count : FnScope ["self", "i", "j"] ["self", "i", "j"] (defScope s_tell_count) := ⟨rfl, rfl, rfl, by decide +kernel, rfl, by decide +kernel, by decide +kernel⟩
theorem ok_tell_count (T : Txt K mg a) : FnOk P w K mg base CX0 3 a.tell_count.a a.tell_count.d ["self", "i", "j"] (sp_tell_count a.C) := by
  have G1 : FnOk P w K mg base CX0 2 a.are_row_numbers.a a.are_row_numbers.d ["i", "j"] sp_are_row_numbers := ok_are_row_numbers T
  have G2 : FnOk P w K mg base CX0 1 a.is_countable.a a.is_countable.d ["row"] (sp_is_countable K) := ok_is_countable T
  have G3 : FnOk P w K mg base CX0 2 a.count_tables.a a.count_tables.d ["line_sums", "column_sums"] (sp_count_tables K) := ok_count_tables T
  refine T.tell_count.F.ok sc_tell_count (fun vs H Q E h => ?_) (fun cdv A outer s H vs Q E hr h => ?_)
  · obtain ⟨p, l, as, s, i, j, rfl, _⟩ := h
    rfl
  · obtain ⟨p, l, as, s, i, j, rfl, R, g, k⟩ := h
    obtain ⟨dx, hp⟩ := R.obj
    have hr1 : Room 1 _ := hr.mono (by decide)
    refine ⟨_, pss_cons (ps_if (PW.pt (pw_or (pt_not (pt_val (pe_call G1 hr rfl T.are_row_numbers.m T.are_row_numbers.k T.are_row_numbers.b .nil pass0 (pa_cons (pv 1) (pa_cons (pv 2) pa_nil))))) (pw_or (pt_not (pt_val (pe_call G2 hr1 rfl T.is_countable.m T.is_countable.k T.is_countable.b .nil pass0 (pa_cons (pe_ix ix_list (pe_fld (pv 0) rfl) (pv 1) (fun _ _ => rfl)) pa_nil)))) (pw_or1 (pt_not (pt_val (pe_call G2 hr1 rfl T.is_countable.m T.is_countable.k T.is_countable.b .nil pass0 (pa_cons (pe_ix ix_list (pe_fld (pv 0) rfl) (pv 2) (fun _ _ => rfl)) pa_nil)))))))) (pss_one (ps_ret (pe_lst (pa_cons (gl_int T.gOUTSIDE) pa_nil)))) pss_nil)
      (pss_one (ps_ret (pe_lst (pa_cons (pe_call G3 hr rfl T.count_tables.m T.count_tables.k T.count_tables.b .nil pass0 (pa_cons (pe_ix ix_list (pe_fld (pv 0) rfl) (pv 1) (fun _ _ => rfl)) (pa_cons (pe_ix ix_list (pe_fld (pv 0) rfl) (pv 2) (fun _ _ => rfl)) pa_nil))) pa_nil)))), ?_⟩
    have k : Out a.C H p l as (if (Rc94.below i 4 && (Rc94.below j 4 && (Rc94.short s i && Rc94.short s j))) = false then (s, Rc94.refused) else (s, { value := ((cnt (Rc94.row s i) (Rc94.row s j) : Nat) : Int) })) Q := k
    refine ⟨_, rfl, _, rfl, i, j, rfl, _, rfl, ite2 (fun q => ?_) (fun q => ?_)⟩
    · have q := nott q
      rw [if_pos (by rw [← Bool.and_assoc, q]; rfl)] at k
      exact iteT ⟨by show 1 ≤ sizeLine; decide, fun q hq => k.same R (Same.refl H) hq⟩
    · have q := ntt q
      rw [← Bool.and_assoc, q, Bool.true_and] at k
      rw [Bool.and_eq_true] at q
      have hi4 := below4 q.1
      have hj4 := below4 q.2
      obtain ⟨b, hb1, hb2⟩ := R.at_.get g hi4
      obtain ⟨c, hc1, hc2⟩ := R.at_.get g hj4
      have ox := g.ok hi4
      have oy := g.ok hj4
      refine ⟨_, rfl, p, a.C, dx, _, _, rfl, hp, T.cl, T.nR, fl_rows l, _, rfl, l, _, i, _, rfl, rfl, SqL.of R.at_.lst, ref_at hi4.1 hb1, b, _, rfl, SqL.of hb2, ox.pos, ox.len, _, rfl, ite2 (fun q1 => ?_) (fun q1 => ?_)⟩
      · have q1 : Rc94.short s i = false := nott q1
        rw [q1, if_pos (by rfl)] at k
        exact iteT ⟨by show 1 ≤ sizeLine; decide, fun q hq => k.same R (Same.refl H) hq⟩
      · have q1 : Rc94.short s i = true := ntt q1
        rw [q1, Bool.true_and] at k
        refine ⟨_, rfl, p, a.C, dx, _, _, rfl, hp, T.cl, T.nR, fl_rows l, _, rfl, l, _, j, _, rfl, rfl, SqL.of R.at_.lst, ref_at hj4.1 hc1, c, _, rfl, SqL.of hc2, oy.pos, oy.len, _, rfl, ite2 (fun q2 => ?_) (fun q2 => ?_)⟩
        · have q2 : Rc94.short s j = false := nott q2
          rw [q2, if_pos rfl] at k
          exact ⟨by show 1 ≤ sizeLine; decide, fun q hq => k.same R (Same.refl H) hq⟩
        · have q2 : Rc94.short s j = true := ntt q2
          rw [q2, if_neg (by decide)] at k
          have z2 : (decide ((Rc94.row s j).length ≤ 6) && (Rc94.row s j).all fun x => decide (x ≤ 6)) = true := q2
          rw [Bool.and_eq_true, decide_eq_true_iff] at z2
          refine ⟨_, rfl, p, a.C, dx, _, _, rfl, hp, T.cl, T.nR, fl_rows l, _, rfl, l, _, i, _, rfl, rfl, SqL.of R.at_.lst, ref_at hi4.1 hb1, _, rfl, p, a.C, dx, _, _, rfl, hp, T.cl, T.nR, fl_rows l, _, rfl, l, _, j, _, rfl, rfl, SqL.of R.at_.lst, ref_at hj4.1 hc1,
            b, c, _, _, rfl, SqL.of hb2, SqL.of hc2, oy.pos, z2.1, fun n hn => of_decide_eq_true (List.all_eq_true.mp z2.2 n hn), fun H1 s1 => ⟨by show 1 ≤ sizeLine; decide, fun q hq => k.same R s1 hq⟩⟩
end
end Ev
end
section
set_option Elab.async false
set_option linter.all false
set_option autoImplicit false
set_option maxRecDepth 100000
set_option maxHeartbeats 4000000
namespace Ev
open PySem PySem.Spec PyProof.Rows L2
theorem zs_getD (c : List Nat) (j : Nat) : (zs c).getD j 0 = ((Rc94.at_ c j : Nat) : Int) := by
  unfold Rc94.at_
  rw [List.getD_eq_getElem?_getD, List.getD_eq_getElem?_getD, List.getElem?_map]
  cases c[j]? <;> rfl
theorem zs_filter (f : Int → Bool) (l : List Nat) : (zs l).filter f = zs (l.filter fun n => f (n : Int)) := by
  show (l.map _).filter f = (l.filter _).map _
  rw [List.filter_map]
  rfl
theorem upTo_zs (n : Nat) : L2.upTo n = zs (List.range n) := rfl
theorem order_nat {c : List Nat} {out : List Int} (hp : out.Perm (L2.upTo c.length)) (hpw : out.Pairwise (fun x y => keyOf (zs c) x ≤ keyOf (zs c) y)) (hfl : ∀ z, out.filter (fun x => keyOf (zs c) x == z) = (L2.upTo c.length).filter (fun x => keyOf (zs c) x == z)) :
    ∃ o : List Nat, out = zs o ∧ o.Perm (List.range c.length) ∧ o.Pairwise (fun a b => bef c a b = true) := by
  have h0 : ∀ x ∈ out, 0 ≤ x := fun x hx => by
    obtain ⟨k, _, rfl⟩ := List.mem_map.mp (show x ∈ (List.range c.length).map _ from hp.mem_iff.mp hx)
    omega
  obtain ⟨o, rfl⟩ : ∃ o : List Nat, out = zs o := ⟨out.map Int.toNat, (nat_zs h0).symm⟩
  refine ⟨o, rfl, ?_, ?_⟩
  · have q := hp.map Int.toNat
    rw [upTo_zs, zs_nat, zs_nat] at q
    exact q
  · refine bef_pw (n := c.length) ?_ fun z => ?_
    · refine (List.pairwise_map.mp hpw).imp fun {a b} h => ?_
      have h : -((zs c).getD (a : Int).toNat 0) ≤ -((zs c).getD (b : Int).toNat 0) := h
      rw [Int.toNat_natCast, Int.toNat_natCast, zs_getD, zs_getD] at h
      omega
    · have q := hfl (-(z : Int))
      rw [upTo_zs, zs_filter, zs_filter] at q
      have e : (fun n : Nat => keyOf (zs c) (n : Int) == -(z : Int)) = fun i => Rc94.at_ c i == z := by
        funext i
        unfold keyOf
        rw [Int.toNat_natCast, zs_getD]
        by_cases h : Rc94.at_ c i = z
        · rw [beq_iff_eq.mpr h]; exact beq_iff_eq.mpr (by omega)
        · rw [beq_eq_false_iff_ne.mpr h]; exact beq_eq_false_iff_ne.mpr (by omega)
      rw [e] at q
      exact zs_inj q
theorem iv_take (l : List Nat) (k : Nat) : (iv l).take k = iv (l.take k) := by
  show ((l.map _).map V.int).take k = ((l.take k).map _).map V.int
  rw [List.map_take, List.map_take]
theorem inV_iv (i : Nat) (l : List Nat) : inV (V.int (0 + (i : Int))) (iv l) = decide (i ∈ l) := by
  unfold inV
  induction l with
  | nil => rfl
  | cons n l ih =>
    show (eqV (V.int (n : Int)) (V.int (0 + (i : Int))) || (iv l).any fun y => eqV y (V.int (0 + (i : Int)))) = _
    rw [ih]
    have e : eqV (V.int (n : Int)) (V.int (0 + (i : Int))) = decide (i = n) := by
      show ((n : Int) == 0 + (i : Int)) = _
      by_cases h : i = n
      · rw [decide_eq_true h]; exact beq_iff_eq.mpr (by omega)
      · rw [decide_eq_false h]; exact beq_eq_false_iff_ne.mpr (by omega)
    rw [e]
    by_cases h : i = n
    · simp [h]
    · simp [h]
theorem flat_iv (l : List Nat) : (iv l).all flatV = true := by
  rw [List.all_eq_true]
  intro v hv
  obtain ⟨z, _, rfl⟩ := List.mem_map.mp hv
  rfl
theorem inK {X : Cx} (K : PySem.W.Frag) (h : X.K = K := by rfl) : OpR X (compareOp CmpOp.In) (rIn K false) := h ▸ op_in_seq
section
variable {P : Program} {w : World} {K : PySem.W.Frag} {mg : Str → Option Value} {base : Heap} {a : Ads}
def sp_neediest (tb : Addr) : Sp := fun vs H Q _ => ∃ (b : Addr) (c : List Nat) (r : Nat), vs = [.ref b, .int (r : Int)] ∧ H b = some (.lst (iv c)) ∧ c.length ≤ 12 ∧ H tb = some (.tbl tpN) ∧
  ∀ (H' : Hp) (q : Addr) (o : List Nat), Same H H' → H q = none → o.Perm (List.range c.length) → o.Pairwise (fun a b => bef c a b = true) → H' q = some (.lst (iv (o.take r))) → Q (.ref q) H'
theorem sc_neediest : FnScope ["wants", "ones"] ["wants", "ones"] (defScope s_neediest) := ⟨rfl, rfl, rfl, by decide +kernel, rfl, by decide +kernel, by decide +kernel⟩
theorem ok_neediest (T : Txt K mg a) (NB : NeedB mg base a.cc a.tb) : FnOk P w K mg base CX0 3 a.neediest.a a.neediest.d ["wants", "ones"] (sp_neediest a.tb) := by
  obtain ⟨oc, od, kV, doc, pm, an, cdv, ct, osl, efd, lk, hcd⟩ := T.neediest.F.ex
  have ec : cdv = .ref a.cc := by
    have z := T.code
    rw [efd] at z
    exact z
  subst ec
  rw [efd] at lk ⊢
  refine fn_of lk hcd sc_neediest (fun vs H Q E h => ?_) fun A outer s H vs Q E hr h => ?_
  · obtain ⟨b, c, r, rfl, _⟩ := h
    rfl
  · obtain ⟨b, c, r, rfl, hb, h12, hT, k⟩ := h
    refine ⟨_, PSs.nox (pss_one (ps_ret (pe_slice sl_list (pe_needy (i := 0) (cc := a.cc) (tb := a.tb) rfl T.sorted hr rfl (pa_cons (pe_rng rfl T.range (pa_cons (pe_callB call_len_seq (by rfl) T.len PySem.boot_len (pa_cons (pv 0) pa_nil)) pa_nil)) pa_nil) NB rfl rfl rfl rfl) po_none (po_some (pv 1))))), ?_⟩
    refine ⟨_, rfl, b, _, rfl, .inl (SqL.of hb), _, rfl, fun rr hrr => ?_⟩
    have s1 : Same H (L2.upd H rr (.rng 0 (((iv c).length : Nat) : Int))) := same_new hrr
    refine ⟨rr, _, b, zs c, rfl, upd_same, by rw [iv_len]; omega, rfl, s1 _ _ hb, by rw [zs_len, iv_len], s1 _ _ hT, fun out H2 p hp hpw hfl sm hpn hp2 => ?_⟩
    rw [iv_len] at hp hfl
    obtain ⟨o, rfl, op, opw⟩ := order_nat hp hpw hfl
    refine ⟨_, rfl, _, rfl, p, _, rfl, SqL.of hp2, fun q hq => ?_⟩
    rw [cut_take _ (by omega), Int.toNat_natCast]
    have s3 := s1.trans (sm.trans (same_new (o := .lst ((iv o).take r)) hq))
    refine k _ q o s3 (s1.free (sm.free hq)) op opw ?_
    rw [upd_same, ← iv_take]
def sp_make_table (K : PySem.W.Frag) (tb : Addr) : Sp := fun vs H Q _ => ∃ (b c : Addr) (x y : List Nat), vs = [.ref b, .ref c] ∧ SqL K H b (iv x) ∧ SqL K H c (iv y) ∧ x.length ≤ 12 ∧ y.length ≤ 12 ∧ H tb = some (.tbl tpN) ∧
  ∀ (H' : Hp) (q : Addr) (as : List Addr), Same H H' → H q = none → LstAt H' q as (Rc94.made x y) → Q (.ref q) H'
theorem sc_make_table : FnScope ["line_sums", "column_sums", "table", "wants", "ones", "chosen", "entries", "c", "want", "entry"] ["line_sums", "column_sums"] (defScope s_make_table) := ⟨rfl, rfl, rfl, by decide +kernel, rfl, by decide +kernel, by decide +kernel⟩
theorem max_sub (x y : Nat) : (if (x : Int) - (y : Int) > 0 then (x : Int) - (y : Int) else 0) = ((x - y : Nat) : Int) := by
  split <;> omega
theorem ok_make_table (T : Txt K mg a) (NB : NeedB mg base a.cc a.tb) : FnOk P w K mg base CX0 4 a.make_table.a a.make_table.d ["line_sums", "column_sums"] (sp_make_table K a.tb) := by
  have G : FnOk P w K mg base CX0 3 a.neediest.a a.neediest.d ["wants", "ones"] (sp_neediest a.tb) := ok_neediest T NB
  refine T.make_table.F.ok sc_make_table (fun vs H Q E h => ?_) (fun cdv A outer s H vs Q E hr h => ?_)
  · obtain ⟨b, c, x, y, rfl, _⟩ := h
    rfl
  · obtain ⟨b, c, x, y, rfl, h1, h2, x12, y12, hT, k⟩ := h
    have B1 : BlkOk ["line_sums", "column_sums", "table", "wants", "ones", "chosen", "entries", "c", "want", "entry"] (defScope s_make_table) (lcSc [("c", .local), ("chosen", .free)]) [("c", 7)] := blkOk_by (by decide +kernel)
    have B2 : BlkOk ["line_sums", "column_sums", "table", "wants", "ones", "chosen", "entries", "c", "want", "entry"] (defScope s_make_table) (lcSc [("want", .local), ("entry", .local), ("max", .globalImplicit)]) [("want", 8), ("entry", 9)] := blkOk_by (by decide +kernel)
    refine ⟨_, pss_cons (ps_set (i := 2) sc_make_table.nd rfl (Or.inl rfl) (pe_lst pa_nil))
      (pss_cons (ps_set (i := 3) sc_make_table.nd rfl (Or.inl rfl) (pe_callTy call_list_of (by rfl) T.list boot_list (pa_cons (pv 1) pa_nil)))
      (pss_cons (ps_for PassesOwn.never rfl (pi_list (pv 0)) (pg_name (i := 4) sc_make_table.nd rfl (Or.inl rfl)) (pss_cons (ps_set (i := 5) sc_make_table.nd rfl (Or.inr rfl) (pe_call G hr rfl T.neediest.m T.neediest.k T.neediest.b .nil pass0 (pa_cons (pv 3) (pa_cons (pv 4) pa_nil))))
      (pss_cons (ps_setLc (i := 6) (own := [("c", 7)]) rfl sc_make_table.nd rfl rfl (sw_true rfl rfl rfl rfl) (pi_range1 rfl T.range (pa_cons (pe_callB call_len_seq (by rfl) T.len PySem.boot_len (pa_cons (pv 3) pa_nil)) pa_nil)) B1
        (fun _ _ _ _ _ => pg_name (i := 7) sc_make_table.nd rfl (Or.inl rfl)) (fun _ _ _ _ _ => pts_nil) (fun _ _ _ _ _ => pe_pick (pt_cmpR (inK K) (pv 7) (pv 5) rfl)))
      (pss_cons (ps_setLc (i := 3) (own := [("want", 8), ("entry", 9)]) rfl sc_make_table.nd rfl rfl (sw_true rfl rfl rfl rfl) (pi_zip rfl T.zip (pa_cons (pv 3) (pa_cons (pv 6) pa_nil))) B2
        (fun _ _ _ _ _ => tupK K 2 rfl (pgs_cons (pg_name (i := 8) sc_make_table.nd rfl (Or.inl rfl) (Or.inr rfl)) (pgs_cons (pg_name (i := 9) sc_make_table.nd rfl (Or.inl rfl) (Or.inr rfl)) pgs_nil))) (fun _ _ _ _ _ => pts_nil) (fun _ _ _ _ _ => pe_callB (call_max2 rfl) (by rfl) T.max boot_max (pa_cons pe_int (pa_cons (pe_op op_sub (pv 8) (pv 9)) pa_nil))))
      (pss_one (ps_expr (pe_bm PySem.F.plainAttrs_list PySem.F.slot_list_append PySem.F.type_list_append mt_append (pv 2) (pa_cons (pv 6) pa_nil))))))))
      (pss_one (ps_ret (pv 2))))), ?_⟩
    refine ⟨Nat.zero_le _, fun t ht => ?_⟩
    have s0 : Same H (L2.upd H t (.lst [])) := same_new ht
    refine ⟨_, rfl, c, _, rfl, .inl (s0.seq h2), fun w0 hw0 => ?_⟩
    have s1 := s0.trans (same_new (o := .lst (iv y)) hw0)
    have at0 : (L2.upd (L2.upd H t (.lst [])) w0 (.lst (iv y))) t = some (.lst []) := (same_new hw0) _ _ upd_same
    have aw0 : (L2.upd (L2.upd H t (.lst [])) w0 (.lst (iv y))) w0 = some (.lst (iv y)) := upd_same
    have ntw : w0 ≠ t := Ne.symm (ne_of_none upd_same hw0)
    generalize L2.upd (L2.upd H t (.lst [])) w0 (.lst (iv y)) = H1 at s1 at0 aw0
    have hT1 := s1 _ _ hT
    have nTt : a.tb ≠ t := ne_of_none hT ht
    have keepSq : ∀ {H' : Hp} {u : Addr} {xs : List V}, (∀ b o, H1 b = some o → b ≠ t → H' b = some o) → SqL K H u xs → SqL K H' u xs := fun {H' u xs} sm q => by
      rcases q with (q | ⟨o, q⟩) | q
      · exact .inl (.inl (sm _ _ (s1 _ _ q) (ne_of_none q ht)))
      · exact .inl (.inr ⟨o, sm _ _ (s1 _ _ q) (ne_of_none q ht)⟩)
      · exact .inr q
    refine ⟨_, rfl, b, rfl, ⟨_, keepSq (fun _ _ e _ => e) h1⟩, for_list (K := K) (xs := iv x)
      (fun i σ H' => ∃ (wa : Addr) (u v z : Option V) (as : List Addr), σ = [some (.ref b), some (.ref c), some (.ref t), some (.ref wa), u, v, z, none, none, none] ∧ H' wa = some (.lst (iv (leftC (x.take i) y))) ∧ wa ≠ t ∧ LstAt H' t as (Rc94.made (x.take i) y) ∧ (∀ e ∈ as, e ≠ t) ∧ ∀ b o, H1 b = some o → b ≠ t → H' b = some o)
      ⟨w0, none, none, none, [], rfl, aw0, ntw, ⟨at0, rfl, fun j e he => by cases he⟩, (fun e he => nomatch he), fun _ _ e _ => e⟩ (fun i σ H' _ ⟨_, _, _, _, _, _, _, _, _, _, sm⟩ => keepSq sm h1) ?_ ?_⟩
    · rintro i v σ H' hv ⟨wa, u, v', z, as, rfl, hwa, nwa, L, nas, sm⟩
      obtain ⟨r, hr', rfl⟩ := iv_of hv
      have et : x.take (i + 1) = x.take i ++ [r] := by rw [List.take_add_one, hr']; rfl
      generalize ecur : leftC (x.take i) y = cur at hwa
      have lcur : cur.length = y.length := by rw [← ecur, leftC_len]
      refine ⟨_, rfl, _, rfl, wa, cur, r, rfl, hwa, by omega, sm _ _ hT1 nTt, fun H2 q o s2 hq op opw hq2 => ?_⟩
      -- entries
      have nc : (((iv cur).length : Nat) : Int).toNat = cur.length := by rw [iv_len]; omega
      refine ⟨_, rfl, wa, _, rfl, .inl (SqL.of (s2 _ _ hwa)), _, rfl, by omega, by rw [iv_len]; omega, fun D hD => lc_range (Acc H2 D fun i => iv ((List.range i).map fun c => if c ∈ o.take r then 1 else 0)) (Acc.zero hD rfl) (fun j H3 hj A => ?_) fun H3 A3 => ?_⟩
      · refine ⟨rfl, _, rfl, _, rfl, q, _, rfl, .inl (SqL.of (A.sm _ _ hq2)), rfl, flat_iv _, _, rfl, ?_⟩
        refine A.add hD (Same.refl H3) (line_lt (by rw [iv_len, List.length_map, List.length_range]; omega)) ?_
        show iv ((List.range (j + 1)).map _) = _
        rw [List.range_succ, List.map_append, List.map_singleton, iv_snoc]
        congr 2
        rw [show (if (false : Bool) = true then !inV (V.int (0 + (j : Int))) (iv (o.take r)) else inV (V.int (0 + (j : Int))) (iv (o.take r))) = inV (V.int (0 + (j : Int))) (iv (o.take r)) from rfl, inV_iv]
        by_cases h : j ∈ o.take r
        · rw [decide_eq_true h, if_pos h, if_pos rfl]; rfl
        · rw [decide_eq_false h, if_neg h, if_neg (by decide)]; rfl
      · rw [nc] at A3
        have a3 : H3 D = some (.lst (iv (Rc94.wants cur r))) := by rw [← wants_eq op opw]; exact A3.at_
        have s3 := s2.trans A3.sm
        have hD' : H' D = none := s2.free hD
        -- what is wanted still
        refine ⟨_, rfl, _, rfl, wa, D, _, _, rfl, SqL.of (s3 _ _ hwa), SqL.of a3, fun D2 hD2 => lc_zip (K := K) (xs := iv cur) (ys := iv (Rc94.wants cur r)) (Acc H3 D2 fun i => iv ((subR cur (Rc94.wants cur r)).take i)) (by rw [iv_len, iv_len, wants_len]) (Acc.zero hD2 rfl)
          (fun i H4 _ A => ⟨SqL.of (A.sm _ _ (s3 _ _ hwa)), SqL.of (A.sm _ _ a3)⟩) (fun j x' y' H4 tt hx hy A htt => ?_) fun H4 A4 => ?_⟩
        · obtain ⟨m1, e1, rfl⟩ := iv_of hx
          obtain ⟨m2, e2, rfl⟩ := iv_of hy
          refine ⟨tt, _, rfl, SqT.of upd_same, rfl, _, _, rfl, _, _, rfl, rfl, rfl, _, rfl, _, rfl, _, _, rfl, rfl, _, _, rfl, ?_⟩
          rw [max_sub]
          refine A.add hD2 (same_new htt) (line_lt (by rw [iv_len, List.length_take]; have := subR_len (wants_len cur r); omega)) ?_
          show iv ((subR cur (Rc94.wants cur r)).take (j + 1)) = _
          have e3 : (subR cur (Rc94.wants cur r))[j]? = some (m1 - m2) := by
            show (List.zipWith _ cur (Rc94.wants cur r))[j]? = _
            rw [List.getElem?_zipWith, e1, e2]
          rw [List.take_add_one, e3]
          exact iv_snoc _ _
        · have a4 : H4 D2 = some (.lst (iv (subR cur (Rc94.wants cur r)))) := by
            have z := A4.at_
            rw [iv_len, List.take_of_length_le (by rw [subR_len (wants_len cur r)]; exact Nat.le_refl _)] at z
            exact z
          have s4 := s3.trans A4.sm
          have L4 := L.mono s4
          have hDt : D ≠ t := fun z => by rw [z, L.lst] at hD'; cases hD'
          have hD2t : D2 ≠ t := fun z => by
            have := s3.free hD2
            rw [z, L.lst] at this
            cases this
          refine ⟨_, rfl, .inl ⟨rfl, _, SqL.of L4.lst⟩, _, rfl, t, _, _, rfl, rfl, L4.lst, line_lt (by rw [List.length_map, L.len, made_len, List.length_take]; omega), ?_⟩
          refine ⟨D2, _, _, _, as ++ [D], rfl, ?_, hD2t, ⟨?_, ?_, fun j e he => ?_⟩, fun e he => ?_, fun b' o' e' hb' => ?_⟩
          · rw [upd_ne hD2t, a4, et, leftC_snoc, ecur]
          · rw [upd_same, List.map_append]; rfl
          · rw [et, made_snoc, List.length_append, List.length_append, L.len]; rfl
          · rw [et, made_snoc, ecur]
            by_cases hj : j < as.length
            · rw [List.getElem?_append_left hj] at he
              obtain ⟨r', z1, z2⟩ := L4.row j e he
              exact ⟨r', by rw [List.getElem?_append_left (by rw [← L.len]; exact hj)]; exact z1, by rw [upd_ne (nas e (List.mem_of_getElem? he))]; exact z2⟩
            · rw [List.getElem?_append_right (by omega)] at he
              have e0 : j - as.length = 0 := by
                have := (List.getElem?_eq_some_iff.mp he).1
                simp at this
                omega
              rw [e0] at he
              obtain rfl : D = e := Option.some.inj he
              refine ⟨Rc94.wants cur r, ?_, by rw [upd_ne hDt]; exact A4.sm _ _ a3⟩
              rw [List.getElem?_append_right (by rw [← L.len]; omega), ← L.len, e0]
              rfl
          · rcases List.mem_append.mp he with z | z
            · exact nas e z
            · rw [List.mem_singleton.mp z]; exact hDt
          · rw [upd_ne hb']
            exact s4 _ _ (sm _ _ e' hb')
    · rintro σ H' ⟨wa, u, v', z, as, rfl, hwa, nwa, L, nas, sm⟩
      rw [iv_len, List.take_of_length_le (Nat.le_refl _)] at L
      exact ⟨_, rfl, k H' t as (fun b' o' e' => sm _ _ (s1 _ _ e') (ne_of_none e' ht)) ht L⟩
end
end Ev
end
section
set_option Elab.async false
set_option linter.all false
set_option autoImplicit false
set_option maxRecDepth 100000
set_option maxHeartbeats 4000000
namespace Ev
open PySem PySem.Spec PyProof.Rows L2
section
variable {P : Program} {w : World} {K : PySem.W.Frag} {mg : Str → Option Value} {base : Heap} {a : Ads}
def sp_column_sum : Sp := fun vs H Q _ => ∃ (t : Addr) (as : List Addr) (tbl : List (List Nat)) (c : Nat), vs = [.ref t, .int (c : Int)] ∧ LstAt H t as tbl ∧ tbl.length ≤ 1000 ∧ (∀ r ∈ tbl, c < r.length) ∧
  ∀ H', Same H H' → Q (.int (((tbl.map fun r => Rc94.at_ r c).sum : Nat) : Int)) H'
theorem sc_column_sum : FnScope ["table", "c", "entries"] ["table", "c"] (defScope s_column_sum) := ⟨rfl, rfl, rfl, by decide +kernel, rfl, by decide +kernel, by decide +kernel⟩
theorem ok_column_sum (T : Txt K mg a) : FnOk P w K mg base CX0 1 a.column_sum.a a.column_sum.d ["table", "c"] sp_column_sum := by
  refine T.column_sum.F.ok sc_column_sum (fun vs H Q E h => ?_) (fun cdv A outer s H vs Q E hr h => ?_)
  · obtain ⟨t, as, tbl, c, rfl, _⟩ := h
    rfl
  · obtain ⟨t, as, tbl, c, rfl, L, hl, hc, k⟩ := h
    have B1 : BlkOk ["table", "c", "entries"] (defScope s_column_sum) (lcSc [("entries", .local), ("c", .free)]) [("entries", 2)] := blkOk_by (by decide +kernel)
    refine ⟨_, pss_one (ps_ret (pe_callB (cr_sum rfl) (by rfl) T.sum boot_sum (pa_cons (pe_lc (own := [("entries", 2)]) rfl sc_column_sum.nd (pi_list (pv 0)) B1 (fun _ _ _ _ _ => pg_name (i := 2) sc_column_sum.nd rfl (Or.inl rfl)) (fun _ _ _ _ _ => pts_nil) (fun _ _ _ _ _ => pe_ix (ixK K) (pv 2) (pv 1) (fun _ _ => rfl))) pa_nil))), ?_⟩
    refine ⟨_, rfl, t, rfl, ⟨_, SqL.of L.lst⟩, fun D hD => lc_list (K := K) (xs := as.map V.ref) (Acc H D fun i => iv ((tbl.take i).map fun r => Rc94.at_ r c)) (Acc.zero hD rfl) (fun i H' _ A => SqL.of (A.sm _ _ L.lst)) (fun i v H' hv A => ?_) fun H1 A1 => ?_⟩
    · obtain ⟨b, hb, rfl⟩ := refs_at' hv
      obtain ⟨row, h1, h2⟩ := L.row i b hb
      have et : tbl.take (i + 1) = tbl.take i ++ [row] := by rw [List.take_add_one, h1]; rfl
      refine ⟨rfl, _, rfl, _, rfl, b, _, _, _, rfl, rfl, SqL.of (A.sm _ _ h2), iv_nat (hc row (List.mem_of_getElem? h1)), A.add hD (Same.refl H') (line_lt (by rw [iv_len, List.length_map, List.length_take]; omega)) ?_⟩
      show iv ((tbl.take (i + 1)).map _) = _
      rw [et, List.map_append, List.map_singleton, iv_snoc]
    · have a1 : H1 D = some (.lst (iv (tbl.map fun r => Rc94.at_ r c))) := by
        have z := A1.at_
        rw [List.length_map, L.len, List.take_of_length_le (Nat.le_refl _)] at z
        exact z
      exact ⟨D, zs (tbl.map fun r => Rc94.at_ r c), rfl, SqL.of a1, to_int (Q := Q) (zs_sum _) (k H1 A1.sm)⟩
def sp_has_sums (K : PySem.W.Frag) : Sp := fun vs H Q _ => ∃ (t b c : Addr) (as : List Addr) (tbl : List (List Nat)) (x y : List Nat), vs = [.ref t, .ref b, .ref c] ∧ LstAt H t as tbl ∧ tbl.length ≤ 12 ∧ SqL K H b (iv x) ∧ SqL K H c (iv y) ∧ y.length ≤ 12 ∧ (∀ r ∈ tbl, r.length = y.length) ∧
  ∀ H', Same H H' → Q (.bl (decide (tbl.map List.sum = x) && decide (Rc94.columns tbl y.length = y))) H'
theorem sc_has_sums : FnScope ["table", "line_sums", "column_sums", "entries", "c"] ["table", "line_sums", "column_sums"] (defScope s_has_sums) := ⟨rfl, rfl, rfl, by decide +kernel, rfl, by decide +kernel, by decide +kernel⟩
theorem zs_eq {x y : List Nat} : decide (zs x = zs y) = decide (x = y) := by
  by_cases h : x = y
  · rw [decide_eq_true h, h]; exact decide_eq_true rfl
  · rw [decide_eq_false h]; exact decide_eq_false fun z => h (zs_inj z)
theorem ok_has_sums (T : Txt K mg a) : FnOk P w K mg base CX0 2 a.has_sums.a a.has_sums.d ["table", "line_sums", "column_sums"] (sp_has_sums K) := by
  have G : FnOk P w K mg base CX0 1 a.column_sum.a a.column_sum.d ["table", "c"] sp_column_sum := ok_column_sum T
  refine T.has_sums.F.ok sc_has_sums (fun vs H Q E h => ?_) (fun cdv A outer s H vs Q E hr h => ?_)
  · obtain ⟨t, b, c, as, tbl, x, y, rfl, _⟩ := h
    rfl
  · obtain ⟨t, b, c, as, tbl, x, y, rfl, L, l12, hb, hc, y12, hrow, k⟩ := h
    have B1 : BlkOk ["table", "line_sums", "column_sums", "entries", "c"] (defScope s_has_sums) (lcSc [("entries", .local), ("sum", .globalImplicit)]) [("entries", 3)] := blkOk_by (by decide +kernel)
    have B2 : BlkOk ["table", "line_sums", "column_sums", "entries", "c"] (defScope s_has_sums) (lcSc [("c", .local), ("column_sum", .globalImplicit), ("table", .free)]) [("c", 4)] := blkOk_by (by decide +kernel)
    refine ⟨_, pss_cons (ps_if (pt_cmpR (op_neL hr.units) (pe_lc (own := [("entries", 3)]) rfl sc_has_sums.nd (pi_list (pv 0)) B1 (fun _ _ _ _ _ => pg_name (i := 3) sc_has_sums.nd rfl (Or.inl rfl)) (fun _ _ _ _ _ => pts_nil) (fun _ _ _ _ _ => pe_callB (sumK K rfl) (by rfl) T.sum boot_sum (pa_cons (pv 3) pa_nil))) (pv 1) (nomark _)) (pss_one (ps_ret pe_bl)) pss_nil)
      (pss_one (ps_ret (pe_cmpR (op_eqL hr.units) (pe_lc (own := [("c", 4)]) rfl sc_has_sums.nd (pi_range1 rfl T.range (pa_cons (pe_callB call_len_seq (by rfl) T.len PySem.boot_len (pa_cons (pv 2) pa_nil)) pa_nil)) B2 (fun _ _ _ _ _ => pg_name (i := 4) sc_has_sums.nd rfl (Or.inl rfl)) (fun _ _ _ _ _ => pts_nil)
        (fun _ _ _ _ _ => pe_call G hr rfl T.column_sum.m T.column_sum.k T.column_sum.b .nil pass0 (pa_cons (pv 0) (pa_cons (pv 4) pa_nil)))) (pv 2) (nomark _)))), ?_⟩
    refine ⟨_, rfl, t, rfl, ⟨_, SqL.of L.lst⟩, fun D hD => lc_list (K := K) (xs := as.map V.ref) (Acc H D fun i => iv ((tbl.take i).map List.sum)) (Acc.zero hD rfl) (fun i H' _ A => SqL.of (A.sm _ _ L.lst)) (fun i v H' hv A => ?_) fun H1 A1 => ?_⟩
    · obtain ⟨e, he, rfl⟩ := refs_at' hv
      obtain ⟨row, h1, h2⟩ := L.row i e he
      have et : tbl.take (i + 1) = tbl.take i ++ [row] := by rw [List.take_add_one, h1]; rfl
      refine ⟨rfl, _, rfl, e, zs row, rfl, SqL.of (A.sm _ _ h2), A.add hD (Same.refl H') (line_lt (by rw [iv_len, List.length_map, List.length_take]; omega)) ?_⟩
      show iv ((tbl.take (i + 1)).map _) = _
      rw [et, List.map_append, List.map_singleton, iv_snoc, zs_sum]
    · have a1 : H1 D = some (.lst (iv (tbl.map List.sum))) := by
        have z := A1.at_
        rw [List.length_map, L.len, List.take_of_length_le (Nat.le_refl _)] at z
        exact z
      have s1 := A1.sm
      refine ⟨_, rfl, D, b, zs (tbl.map List.sum), zs x, rfl, rfl, SqL.of a1, s1.seq hb, _, rfl, ite2 (fun q => ?_) (fun q => ?_)⟩
      · have q := nott q
        rw [zs_eq] at q
        have z := k H1 s1
        rw [q, Bool.false_and] at z
        exact z
      · have q := ntt q
        rw [zs_eq] at q
        have ny : (((iv y).length : Nat) : Int).toNat = y.length := by rw [iv_len]; omega
        refine ⟨_, rfl, c, _, rfl, .inl (s1.seq hc), _, rfl, by omega, by rw [iv_len]; omega, fun D2 hD2 => lc_range (Acc H1 D2 fun i => iv ((List.range i).map fun j => (tbl.map fun r => Rc94.at_ r j).sum)) (Acc.zero hD2 rfl) (fun i H' hi A => ?_) fun H2 A2 => ?_⟩
        · rw [ny] at hi
          refine ⟨rfl, _, rfl, _, rfl, t, as, tbl, i, by rw [show (0 : Int) + ((i : Nat) : Int) = (i : Int) by omega]; rfl, L.mono (s1.trans A.sm), by omega, fun r hr => by rw [hrow r hr]; exact hi, fun H3 s3 => A.add hD2 s3 (line_lt (by rw [iv_len, List.length_map, List.length_range]; omega)) ?_⟩
          show iv ((List.range (i + 1)).map _) = _
          rw [List.range_succ, List.map_append, List.map_singleton, iv_snoc]
        · have a2 : H2 D2 = some (.lst (iv (Rc94.columns tbl y.length))) := by
            have z := A2.at_
            rw [ny] at z
            exact z
          refine ⟨_, rfl, D2, c, zs (Rc94.columns tbl y.length), zs y, rfl, rfl, SqL.of a2, (s1.trans A2.sm).seq hc, ?_⟩
          have z := k H2 (s1.trans A2.sm)
          rw [q, Bool.true_and] at z
          rw [zs_eq]
          exact z
def sp_as_number (K : PySem.W.Frag) : Sp := fun vs H Q _ => ∃ (b : Addr) (r : List Nat), vs = [.ref b] ∧ SqL K H b (iv r) ∧ r.length ≤ 12 ∧ (∀ x ∈ r, x ≤ 1) ∧ ∀ H', Same H H' → Q (.int ((Rc94.mask r : Nat) : Int)) H'
theorem sc_as_number : FnScope ["entries", "c", "entry"] ["entries"] (defScope s_as_number) := ⟨rfl, rfl, rfl, by decide +kernel, rfl, by decide +kernel, by decide +kernel⟩
theorem ok_as_number (T : Txt K mg a) : FnOk P w K mg base CX0 1 a.as_number.a a.as_number.d ["entries"] (sp_as_number K) := by
  refine T.as_number.F.ok sc_as_number (fun vs H Q E h => ?_) (fun cdv A outer s H vs Q E hr h => ?_)
  · obtain ⟨b, r, rfl, _⟩ := h
    rfl
  · obtain ⟨b, r, rfl, hb, r12, h01, k⟩ := h
    have B1 : BlkOk ["entries", "c", "entry"] (defScope s_as_number) (lcSc [("c", .local), ("entry", .local)]) [("c", 1), ("entry", 2)] := blkOk_by (by decide +kernel)
    refine ⟨_, pss_one (ps_ret (pe_callB (cr_sum rfl) (by rfl) T.sum boot_sum (pa_cons (pe_lc (own := [("c", 1), ("entry", 2)]) rfl sc_as_number.nd (pi_enum rfl T.enumerate (pa_cons (pv 0) pa_nil)) B1
      (fun _ _ _ _ _ => tupK K 2 rfl (pgs_cons (pg_name (i := 1) sc_as_number.nd rfl (Or.inl rfl) (Or.inr rfl)) (pgs_cons (pg_name (i := 2) sc_as_number.nd rfl (Or.inl rfl) (Or.inr rfl)) pgs_nil))) (fun _ _ _ _ _ => pts_nil) (fun _ _ _ _ _ => pe_op op_shl (pv 2) (pv 1))) pa_nil))), ?_⟩
    refine ⟨_, rfl, b, _, rfl, hb, fun D hD => lc_enum (K := K) (xs := iv r) (Acc H D fun i => iv ((List.range i).map fun j => Rc94.at_ r j * 2 ^ j)) (Acc.zero hD rfl) (fun i H' _ A => A.sm.seq hb) (fun i v H' t hv A ht => ?_) fun H1 A1 => ?_⟩
    · obtain ⟨n, hn, rfl⟩ := iv_of hv
      have n1 : n ≤ 1 := h01 n (List.mem_of_getElem? hn)
      have hi : i < r.length := (List.getElem?_eq_some_iff.mp hn).1
      refine ⟨t, _, rfl, SqT.of upd_same, rfl, _, _, rfl, _, _, rfl, rfl, rfl, _, rfl, _, rfl, _, _, rfl, rfl, ⟨by omega, by omega, by rw [Int.natAbs_natCast]; exact Nat.lt_of_le_of_lt n1 (by decide)⟩, A.add hD (same_new ht) (line_lt (by rw [iv_len, List.length_map, List.length_range]; omega)) ?_⟩
      show iv ((List.range (i + 1)).map _) = _
      rw [List.range_succ, List.map_append, List.map_singleton, iv_snoc]
      congr 2
      refine vint_eq ?_
      rw [Int.toNat_natCast, at_of hn, Int.natCast_mul, Int.natCast_pow]
      rfl
    · have a1 : H1 D = some (.lst (iv ((List.range r.length).map fun j => Rc94.at_ r j * 2 ^ j))) := by
        have z := A1.at_
        rw [iv_len] at z
        exact z
      exact ⟨D, zs ((List.range r.length).map fun j => Rc94.at_ r j * 2 ^ j), rfl, SqL.of a1, to_int (Q := Q) (zs_sum _) (k H1 A1.sm)⟩
def sp_tell_made (C tb : Addr) : Sp := fun vs H Q _ => ∃ (p l : Addr) (as : List Addr) (s : Rc94.Abs) (i j m : Int), vs = [.ref p, .int i, .int j, .int m] ∧ RowsAt C H p l as s.rows ∧ Good s ∧ H tb = some (.tbl tpN) ∧ Out C H p l as (Rc94.does s (.made i j m)) Q
theorem sc_tell_made : FnScope ["self", "i", "j", "most", "table", "entries"] ["self", "i", "j", "most"] (defScope s_tell_made) := ⟨rfl, rfl, rfl, by decide +kernel, rfl, by decide +kernel, by decide +kernel⟩
theorem ok_tell_made (T : Txt K mg a) (NB : NeedB mg base a.cc a.tb) : FnOk P w K mg base CX0 5 a.tell_made.a a.tell_made.d ["self", "i", "j", "most"] (sp_tell_made a.C a.tb) := by
  have G1 : FnOk P w K mg base CX0 2 a.are_row_numbers.a a.are_row_numbers.d ["i", "j"] sp_are_row_numbers := ok_are_row_numbers T
  have G2 : FnOk P w K mg base CX0 4 a.make_table.a a.make_table.d ["line_sums", "column_sums"] (sp_make_table K a.tb) := ok_make_table T NB
  have G3 : FnOk P w K mg base CX0 2 a.has_sums.a a.has_sums.d ["table", "line_sums", "column_sums"] (sp_has_sums K) := ok_has_sums T
  have G4 : FnOk P w K mg base CX0 1 a.as_number.a a.as_number.d ["entries"] (sp_as_number K) := ok_as_number T
  have G5 : FnOk P w K mg base CX0 1 a.first_of.a a.first_of.d ["told", "most"] (sp_first_of K) := ok_first_of T
  refine T.tell_made.F.ok sc_tell_made (fun vs H Q E h => ?_) (fun cdv A outer s H vs Q E hr h => ?_)
  · obtain ⟨p, l, as, s, i, j, m, rfl, _⟩ := h
    rfl
  · obtain ⟨p, l, as, s, i, j, m, rfl, R, g, hT, k⟩ := h
    obtain ⟨dx, hp⟩ := R.obj
    have hr1 : Room 1 _ := hr.mono (by decide)
    have hr2 : Room 2 _ := hr.mono (by decide)
    have B1 : BlkOk ["self", "i", "j", "most", "table", "entries"] (defScope s_tell_made) (lcSc [("entries", .local), ("as_number", .globalImplicit)]) [("entries", 5)] := blkOk_by (by decide +kernel)
    refine ⟨_, pss_cons (ps_if (pt_not (pt_val (pe_call G1 hr2 rfl T.are_row_numbers.m T.are_row_numbers.k T.are_row_numbers.b .nil pass0 (pa_cons (pv 1) (pa_cons (pv 2) pa_nil))))) (pss_one (ps_ret (pe_lst (pa_cons (gl_int T.gOUTSIDE) pa_nil)))) pss_nil)
      (pss_cons (ps_set (i := 4) sc_tell_made.nd rfl (Or.inl rfl) (pe_call G2 hr rfl T.make_table.m T.make_table.k T.make_table.b .nil pass0 (pa_cons (pe_ix ix_list (pe_fld (pv 0) rfl) (pv 1) (fun _ _ => rfl)) (pa_cons (pe_ix ix_list (pe_fld (pv 0) rfl) (pv 2) (fun _ _ => rfl)) pa_nil))))
      (pss_cons (ps_if (pt_not (pt_val (pe_call G3 hr2 rfl T.has_sums.m T.has_sums.k T.has_sums.b .nil pass0 (pa_cons (pv 4) (pa_cons (pe_ix ix_list (pe_fld (pv 0) rfl) (pv 1) (fun _ _ => rfl)) (pa_cons (pe_ix ix_list (pe_fld (pv 0) rfl) (pv 2) (fun _ _ => rfl)) pa_nil)))))) (pss_one (ps_ret (pe_lst (pa_cons pe_int pa_nil)))) pss_nil)
      (pss_one (ps_ret (pe_op op_cat (pe_lst (pa_cons (pe_callB call_len_seq (by rfl) T.len PySem.boot_len (pa_cons (pv 4) pa_nil)) pa_nil)) (pe_call G5 hr1 rfl T.first_of.m T.first_of.k T.first_of.b .nil pass0 (pa_cons (pe_lc (own := [("entries", 5)]) rfl sc_tell_made.nd (pi_list (pv 4)) B1 (fun _ _ _ _ _ => pg_name (i := 5) sc_tell_made.nd rfl (Or.inl rfl)) (fun _ _ _ _ _ => pts_nil)
        (fun _ _ _ _ _ => pe_call G4 hr1 rfl T.as_number.m T.as_number.k T.as_number.b .nil pass0 (pa_cons (pv 5) pa_nil))) (pa_cons (pv 3) pa_nil)))))))), ?_⟩
    have k : Out a.C H p l as (if (Rc94.below i 4 && Rc94.below j 4) = false then (s, Rc94.refused) else if Rc94.columns (Rc94.made (Rc94.row s i) (Rc94.row s j)) (Rc94.row s j).length = Rc94.row s j ∧ (Rc94.made (Rc94.row s i) (Rc94.row s j)).map List.sum = Rc94.row s i then
      (s, { value := (((Rc94.row s i).length : Nat) : Int), numbers := ((Rc94.made (Rc94.row s i) (Rc94.row s j)).map Rc94.mask).take (Rc94.room_ m 12) }) else (s, { value := 0 })) Q := k
    refine ⟨_, rfl, _, rfl, i, j, rfl, _, rfl, ite2 (fun q => ?_) (fun q => ?_)⟩
    · rw [if_pos (nott q)] at k
      exact ⟨by show 1 ≤ sizeLine; decide, fun q hq => k.same R (Same.refl H) hq⟩
    · have q := ntt q
      rw [if_neg (by rw [q]; decide)] at k
      rw [Bool.and_eq_true] at q
      have hi4 := below4 q.1
      have hj4 := below4 q.2
      obtain ⟨b, hb1, hb2⟩ := R.at_.get g hi4
      obtain ⟨c, hc1, hc2⟩ := R.at_.get g hj4
      have ox := g.ok hi4
      have oy := g.ok hj4
      have rows := made_row (Rc94.row s i) (Rc94.row s j)
      have lm : (Rc94.made (Rc94.row s i) (Rc94.row s j)).length = (Rc94.row s i).length := made_len _ _
      refine ⟨_, rfl, p, a.C, dx, _, _, rfl, hp, T.cl, T.nR, fl_rows l, _, rfl, l, _, i, _, rfl, rfl, SqL.of R.at_.lst, ref_at hi4.1 hb1, _, rfl, p, a.C, dx, _, _, rfl, hp, T.cl, T.nR, fl_rows l, _, rfl, l, _, j, _, rfl, rfl, SqL.of R.at_.lst, ref_at hj4.1 hc1,
        b, c, _, _, rfl, SqL.of hb2, SqL.of hc2, ox.len, oy.len, hT, fun H1 t at1 s1 ht L => ?_⟩
      generalize Rc94.made (Rc94.row s i) (Rc94.row s j) = tbl at k rows lm L
      have h12 := ox.len
      refine ⟨_, rfl, _, rfl, p, a.C, dx, _, _, rfl, s1 _ _ hp, T.cl, T.nR, fl_rows l, _, rfl, l, _, i, _, rfl, rfl, SqL.of (s1 _ _ R.at_.lst), ref_at hi4.1 hb1, _, rfl, p, a.C, dx, _, _, rfl, s1 _ _ hp, T.cl, T.nR, fl_rows l, _, rfl, l, _, j, _, rfl, rfl, SqL.of (s1 _ _ R.at_.lst), ref_at hj4.1 hc1,
        t, b, c, at1, tbl, _, _, rfl, L, by omega, SqL.of (s1 _ _ hb2), SqL.of (s1 _ _ hc2), oy.len, fun r hr => (rows r hr).1, fun H2 s2 => ⟨_, rfl, ite2 (fun q => ?_) (fun q => ?_)⟩⟩
      · have q := nott q
        rw [if_neg (fun z => by rw [decide_eq_true z.1, decide_eq_true z.2] at q; cases q)] at k
        exact ⟨by show 1 ≤ sizeLine; decide, fun q hq => k.same R (s1.trans s2) hq⟩
      · have q := ntt q
        rw [Bool.and_eq_true, decide_eq_true_iff, decide_eq_true_iff] at q
        rw [if_pos ⟨q.2, q.1⟩] at k
        have Lb := L.mono s2
        refine ⟨_, rfl, t, _, rfl, .inl (SqL.of Lb.lst), by show 1 ≤ sizeLine; decide, fun e1 he1 => ?_⟩
        have s3 := s2.trans (same_new (o := .lst [V.int (((at1.map V.ref).length : Nat) : Int)]) he1)
        have ae : (L2.upd H2 e1 (.lst [V.int (((at1.map V.ref).length : Nat) : Int)])) e1 = some (.lst [V.int (((at1.map V.ref).length : Nat) : Int)]) := upd_same
        generalize L2.upd H2 e1 (.lst [V.int (((at1.map V.ref).length : Nat) : Int)]) = H3 at s3 ae
        have L3 := L.mono s3
        refine ⟨_, rfl, t, rfl, ⟨_, SqL.of L3.lst⟩, fun D hD => lc_list (K := K) (xs := at1.map V.ref) (Acc H3 D fun i => iv ((tbl.take i).map Rc94.mask)) (Acc.zero hD rfl) (fun i H' _ A => SqL.of (A.sm _ _ L3.lst)) (fun i v H' hv A => ?_) fun H4 A4 => ?_⟩
        · obtain ⟨e, he, rfl⟩ := refs_at' hv
          obtain ⟨row, h1, h2⟩ := L3.row i e he
          have et : tbl.take (i + 1) = tbl.take i ++ [row] := by rw [List.take_add_one, h1]; rfl
          have hm := rows row (List.mem_of_getElem? h1)
          refine ⟨rfl, _, rfl, e, row, rfl, SqL.of (A.sm _ _ h2), by rw [hm.1]; exact oy.len, hm.2, fun H5 s5 => A.add hD s5 (line_lt (by rw [iv_len, List.length_map, List.length_take]; omega)) ?_⟩
          show iv ((tbl.take (i + 1)).map _) = _
          rw [et, List.map_append, List.map_singleton, iv_snoc]
        · have a4 : H4 D = some (.lst (iv (tbl.map Rc94.mask))) := by
            have z := A4.at_
            rw [List.length_map, L.len, List.take_of_length_le (Nat.le_refl _)] at z
            exact z
          have s4 := s3.trans A4.sm
          refine ⟨_, rfl, D, _, m, rfl, SqL.of a4, fun e2 he2 => ?_⟩
          have s5 := s1.trans (s4.trans (same_new (o := .lst ((iv (tbl.map Rc94.mask)).take (Rc94.room_ m 12))) he2))
          have ae2 := (same_new (o := .lst ((iv (tbl.map Rc94.mask)).take (Rc94.room_ m 12))) he2) _ _ (A4.sm _ _ ae)
          have hlen : ([V.int (((at1.map V.ref).length : Nat) : Int)] : List V).length + ((iv (tbl.map Rc94.mask)).take (Rc94.room_ m 12)).length ≤ sizeLine := by
            have h2 : ((iv (tbl.map Rc94.mask)).take (Rc94.room_ m 12)).length ≤ 12 := by
              rw [List.length_take, iv_len, List.length_map]
              omega
            have h3 : sizeLine = 16777216 := sizeLine_eq
            show 1 + _ ≤ _
            omega
          refine ⟨e1, e2, _, _, rfl, rfl, ae2, upd_same, hlen, fun q hq => ?_⟩
          have z := k.same R s5 hq
          have el : (ansOf { value := (((Rc94.row s i).length : Nat) : Int), numbers := (tbl.map Rc94.mask).take (Rc94.room_ m 12) }).map V.int = [V.int (((at1.map V.ref).length : Nat) : Int)] ++ (iv (tbl.map Rc94.mask)).take (Rc94.room_ m 12) := by
            rw [List.length_map, L.len, lm]
            show V.int _ :: (((tbl.map Rc94.mask).take (Rc94.room_ m 12)).map _).map V.int = V.int _ :: _
            rw [List.map_take, List.map_take]
            rfl
          rw [el] at z
          exact z
end
end Ev
end
section
set_option Elab.async false
set_option linter.all false
set_option autoImplicit false
set_option maxRecDepth 100000
set_option maxHeartbeats 4000000
namespace Ev
open PySem PySem.Spec PyProof.Rows L2
def Cl.kind : Cl → Int
  | .c0 => 0
  | .c1 _ _ => 1
  | .c2 _ _ => 2
  | .c3 _ _ => 3
  | .c4 _ _ _ _ => 4
  | .c5 _ _ => 5
  | .c6 _ _ _ => 6
  | .c7 _ _ => 7
  | .c8 _ _ _ => 8
theorem flat0 (c : Cl) : c.flat[0]? = some c.kind := by cases c <;> rfl
theorem flat_pos (c : Cl) : 0 < c.flat.length := by
  cases c <;> exact Nat.succ_pos _
theorem drop_at {ns u v : List Int} {st j : Nat} (h : ns.drop st = u ++ v) (hj : j < u.length) : ns[st + j]? = u[j]? := by
  rw [← List.getElem?_drop, h, List.getElem?_append_left hj]
theorem cut_call {ns u v : List Int} {st : Nat} (h : ns.drop st = u ++ v) (hs : st ≤ ns.length) : cutV (ns.map V.int) (some (st : Int)) (some ((st + u.length : Nat) : Int)) = u.map V.int := by
  have hl : (ns.drop st).length = u.length + v.length := by rw [h, List.length_append]
  rw [List.length_drop] at hl
  unfold cutV
  rw [HT.sIx_nat, HT.sIx_nat, List.length_map, Nat.min_eq_left hs, Nat.min_eq_left (by omega), ← List.map_drop, h, ← List.map_take, Nat.add_sub_cancel_left, List.take_left']
  rfl
theorem cut_from (xs : List V) {n : Nat} : cutV xs (some (n : Int)) none = xs.drop n := by
  unfold cutV
  rw [HT.sIx_nat, HT.sIx_none]
  by_cases h : n ≤ xs.length
  · rw [Nat.min_eq_left h, List.take_of_length_le (by rw [List.length_drop]; exact Nat.le_refl _)]
  · rw [Nat.min_eq_right (by omega), List.drop_of_length_le (Nat.le_refl _), List.drop_of_length_le (by omega), List.take_nil]
theorem ints_ix {ns : List Int} {j : Nat} {z : Int} (h : ns[j]? = some z) : atI (ns.map V.int) (j : Int) = some (V.int z) := atI_nat (by rw [List.getElem?_map, h]; rfl)
theorem ref_ints {as : List Addr} {ns : List Int} (h : as ≠ []) : HO.lst (as.map V.ref) ≠ HO.lst (ns.map V.int) := fun e => by
  have e := HO.lst.inj e
  cases as with
  | nil => exact h rfl
  | cons b t =>
    cases ns with
    | nil => cases e
    | cons n r => exact nomatch (List.cons.inj e).1
theorem room_le (m : Int) : Rc94.room_ m 12 ≤ 12 := by
  unfold Rc94.room_
  split
  · rename_i h
    have := h.2
    omega
  · exact Nat.zero_le _
theorem ans_len (s : Rc94.Abs) (c : Cl) : (ansOf (Rc94.does s c.call).2).length ≤ 13 := by
  have one : ∀ z : Int, (ansOf { value := z }).length ≤ 13 := fun z => by show 1 ≤ 13; decide
  have tk : ∀ (z : Int) (l : List Nat) (m : Int), (ansOf { value := z, numbers := l.take (Rc94.room_ m 12) }).length ≤ 13 := fun z l m => by
    show ((l.take (Rc94.room_ m 12)).map _).length + 1 ≤ 13
    rw [List.length_map, List.length_take]
    have := room_le m
    omega
  cases c with
  | c0 => exact one _
  | c1 i r =>
    show (ansOf (ite _ _ _ : Rc94.Abs × Rc94.Ans).2).length ≤ 13
    split <;> exact one _
  | c2 i m =>
    show (ansOf (ite _ _ _ : Rc94.Abs × Rc94.Ans).2).length ≤ 13
    split
    · exact one _
    · exact tk _ _ _
  | c3 i j =>
    show (ansOf (ite _ _ _ : Rc94.Abs × Rc94.Ans).2).length ≤ 13
    split <;> exact one _
  | c4 i x y n =>
    show (ansOf (ite _ _ _ : Rc94.Abs × Rc94.Ans).2).length ≤ 13
    split
    · exact one _
    · split <;> exact one _
  | c5 i j =>
    show (ansOf (ite _ _ _ : Rc94.Abs × Rc94.Ans).2).length ≤ 13
    split
    · exact one _
    · split <;> exact one _
  | c6 i j k =>
    show (ansOf (ite _ _ _ : Rc94.Abs × Rc94.Ans).2).length ≤ 13
    split
    · exact one _
    · split <;> exact one _
  | c7 i j =>
    show (ansOf (ite _ _ _ : Rc94.Abs × Rc94.Ans).2).length ≤ 13
    split <;> exact one _
  | c8 i j m =>
    show (ansOf (ite _ _ _ : Rc94.Abs × Rc94.Ans).2).length ≤ 13
    split
    · exact one _
    · split
      · exact tk _ _ _
      · exact one _
def Cl.known (c : Cl) : Prop := (lensOf c.kind).isSome = true
theorem known_len {c : Cl} (h : c.known) : ∃ v : Nat, lensOf c.kind = some (v : Int) ∧ 1 ≤ v ∧ (c.kind ≠ 1 → c.flat.length = v) := by
  cases c with
  | c0 => exact ⟨1, rfl, by decide, fun _ => rfl⟩
  | c1 i r => exact ⟨3, rfl, by decide, fun h => absurd rfl h⟩
  | c2 i m => exact ⟨3, rfl, by decide, fun _ => rfl⟩
  | c3 i j => exact ⟨3, rfl, by decide, fun _ => rfl⟩
  | c4 i x y n => exact ⟨5, rfl, by decide, fun _ => rfl⟩
  | c5 i j => exact ⟨3, rfl, by decide, fun _ => rfl⟩
  | c6 i j k => exact ⟨4, rfl, by decide, fun _ => rfl⟩
  | c7 i j => exact ⟨3, rfl, by decide, fun _ => rfl⟩
  | c8 i j m => exact ⟨4, rfl, by decide, fun _ => rfl⟩
theorem all_known (c : Cl) : c.known := by cases c <;> rfl
section
variable {P : Program} {w : World} {K : PySem.W.Frag} {mg : Str → Option Value} {base : Heap} {a : Ads}
def sp_end_of_call (K : PySem.W.Frag) : Sp := fun vs H Q _ => ∃ (b : Addr) (ns rest : List Int) (st : Nat) (c : Cl), vs = [.ref b, .int (st : Int)] ∧ SqL K H b (ns.map V.int) ∧ ns.drop st = c.flat ++ rest ∧ c.known ∧ Q (.int ((st + c.flat.length : Nat) : Int)) H
theorem sc_end_of_call : FnScope ["calls", "start", "number", "end"] ["calls", "start"] (defScope s_end_of_call) := ⟨rfl, rfl, rfl, by decide +kernel, rfl, by decide +kernel, by decide +kernel⟩
theorem ok_end_of_call (T : Txt K mg a) : FnOk P w K mg base CX0 1 a.end_of_call.a a.end_of_call.d ["calls", "start"] (sp_end_of_call K) := by
  refine T.end_of_call.F.ok sc_end_of_call (fun vs H Q E h => ?_) (fun cdv A outer s H vs Q E hr h => ?_)
  · obtain ⟨b, ns, rest, st, c, rfl, _⟩ := h
    rfl
  · obtain ⟨b, ns, rest, st, c, rfl, hb, hd, hc, k⟩ := h
    refine ⟨_, pss_cons (ps_set (i := 2) sc_end_of_call.nd rfl (Or.inl rfl) (pe_ix ix_list (pv 0) (pv 1) (fun _ _ => rfl)))
      (pss_cons (ps_set (i := 3) sc_end_of_call.nd rfl (Or.inl rfl) (pe_op op_add (pv 1) (pe_ix ix_kd (gl_ref T.rLENGTHS) (pv 2) (fun _ _ => rfl))))
      (pss_cons (ps_if (pt_cmpR op_eq (pv 2) (gl_int T.gROW) (nomark _)) (pss_one (ps_ret (pe_op op_add (pv 3) (pe_ix ix_list (pv 0) (pe_op op_sub (pv 3) pe_int) (fun _ _ => rfl))))) pss_nil)
      (pss_one (ps_ret (pv 3))))), ?_⟩
    have h0 : ns[st]? = some c.kind := (drop_at (j := 0) hd (flat_pos c)).trans (flat0 c)
    obtain ⟨v, hv, v1, hv2⟩ := known_len hc
    refine ⟨_, rfl, _, rfl, b, _, _, _, rfl, rfl, hb, ints_ix h0, ?_⟩
    refine ⟨_, rfl, _, rfl, a.lens, _, _, _, rfl, rfl, T.kLENGTHS, hv, _, _, rfl, rfl, ?_⟩
    refine ⟨_, rfl, rfl, _, rfl, ite2 (fun q => ?_) (fun q => ?_)⟩
    · have q : c.kind = 1 := by
        rw [dec_vint] at q
        exact of_decide_eq_true q
      cases c with
      | c1 i r =>
        obtain rfl : v = 3 := by
          have z : some (3 : Int) = some (v : Int) := hv
          have := Option.some.inj z
          omega
        have h2 : ns[st + 2]? = some ((r.length : Nat) : Int) := drop_at (j := 2) hd (by show 2 < (zs r).length + 1 + 1 + 1; omega)
        refine ⟨_, rfl, _, rfl, _, rfl, _, _, rfl, rfl, b, _, _, _, rfl, rfl, hb, L2.at_of (j := st + 2) (by omega) (by rw [List.getElem?_map, h2]; rfl), _, _, rfl, rfl, ?_⟩
        have e : (st : Int) + ((3 : Nat) : Int) + ((r.length : Nat) : Int) = ((st + (Cl.c1 i r).flat.length : Nat) : Int) := by
          show _ = ((st + ((zs r).length + 1 + 1 + 1) : Nat) : Int)
          rw [zs_len]
          omega
        exact to_int (Q := Q) e k
      | c0 => cases q
      | c2 _ _ => cases q
      | c3 _ _ => cases q
      | c4 _ _ _ _ => cases q
      | c5 _ _ => cases q
      | c6 _ _ _ => cases q
      | c7 _ _ => cases q
      | c8 _ _ _ => cases q
    · have q : c.kind ≠ 1 := fun z => q (by rw [dec_vint]; exact decide_eq_true z)
      refine ⟨_, rfl, ?_⟩
      have e : (st : Int) + (v : Int) = ((st + c.flat.length : Nat) : Int) := by
        rw [hv2 q]
        omega
      exact to_int (Q := Q) e k
def sp_answer_call (K : PySem.W.Frag) (C tb : Addr) : Sp := fun vs H Q _ => ∃ (p l : Addr) (as : List Addr) (s : Rc94.Abs) (b : Addr) (c : Cl), vs = [.ref p, .ref b] ∧ RowsAt C H p l as s.rows ∧ Good s ∧ SqL K H b (c.flat.map V.int) ∧ c.good ∧ H tb = some (.tbl tpN) ∧ Out C H p l as (Rc94.does s c.call) Q
theorem sc_answer_call : FnScope ["held", "call", "number"] ["held", "call"] (defScope s_answer_call) := ⟨rfl, rfl, rfl, by decide +kernel, rfl, by decide +kernel, by decide +kernel⟩
theorem iteEq {A B : Prop} {i j : Int} (h : i = j) (k : A) : if decide (V.int i = V.int j) = true then A else B := by
  subst h
  rw [decide_eq_true rfl]
  exact iteT k
theorem iteNe {A B : Prop} {i j : Int} (h : i ≠ j) (k : B) : if decide (V.int i = V.int j) = true then A else B := by
  rw [dec_vint, decide_eq_false h]
  exact iteF k
theorem ok_answer_call (T : Txt K mg a) (NB : NeedB mg base a.cc a.tb) : FnOk P w K mg base CX0 6 a.answer_call.a a.answer_call.d ["held", "call"] (sp_answer_call K a.C a.tb) := by
  have G0 : FnOk P w K mg base CX0 2 a.begin.a a.begin.d ["self"] (sp_begin a.C) := ok_begin T
  have G1 : FnOk P w K mg base CX0 2 a.put.a a.put.d ["self", "i", "numbers"] (sp_put K a.C) := ok_put T
  have G2 : FnOk P w K mg base CX0 2 a.tell_sorted.a a.tell_sorted.d ["self", "i", "most"] (sp_tell_sorted a.C) := ok_tell_sorted T
  have G3 : FnOk P w K mg base CX0 3 a.compare.a a.compare.d ["self", "i", "j"] (sp_compare a.C) := ok_compare T
  have G4 : FnOk P w K mg base CX0 3 a.move.a a.move.d ["self", "i", "p", "q", "a"] (sp_move a.C) := ok_move T
  have G5 : FnOk P w K mg base CX0 3 a.take_step.a a.take_step.d ["self", "i", "j"] (sp_take_step a.C) := ok_take_step T
  have G6 : FnOk P w K mg base CX0 3 a.meet.a a.meet.d ["self", "i", "j", "k"] (sp_meet a.C) := ok_meet T
  have G7 : FnOk P w K mg base CX0 3 a.tell_count.a a.tell_count.d ["self", "i", "j"] (sp_tell_count a.C) := ok_tell_count T
  have G8 : FnOk P w K mg base CX0 5 a.tell_made.a a.tell_made.d ["self", "i", "j", "most"] (sp_tell_made a.C a.tb) := ok_tell_made T NB
  refine T.answer_call.F.ok sc_answer_call (fun vs H Q E h => ?_) (fun cdv A outer s H vs Q E hr h => ?_)
  · obtain ⟨p, l, as, s, b, c, rfl, _⟩ := h
    rfl
  · obtain ⟨p, l, as, s, b, c, rfl, R, g, hb, hc, hT, k⟩ := h
    obtain ⟨dx, hp⟩ := R.obj
    have hr2 : Room 2 _ := hr.mono (by decide)
    have hr3 : Room 3 _ := hr.mono (by decide)
    refine ⟨_, pss_cons (ps_set (i := 2) sc_answer_call.nd rfl (Or.inl rfl) (pe_ix ix_list (pv 1) pe_int (fun _ _ => rfl)))
      (pss_cons (ps_if (pt_cmpR op_eq (pv 2) (gl_int T.gBEGIN) (nomark _)) (pss_one (ps_ret (pe_meth0 (pv 0) T.cl T.begin.m G0 hr2 T.begin.b .nil pass0))) pss_nil)
      (pss_cons (ps_if (pt_cmpR op_eq (pv 2) (gl_int T.gROW) (nomark _)) (pss_one (ps_ret (pe_meth (pv 0) T.cl T.put.m G1 hr2 T.put.b .nil pass0 (pa_cons (pe_ix ix_list (pv 1) pe_int (fun _ _ => rfl)) (pa_cons (pe_slice sl_list (pv 1) (po_some (pe_ix ix_kd (gl_ref T.rLENGTHS) (gl_int T.gROW) (fun _ _ => rfl))) po_none) pa_nil))))) pss_nil)
      (pss_cons (ps_if (pt_cmpR op_eq (pv 2) (gl_int T.gSORTED) (nomark _)) (pss_one (ps_ret (pe_meth (pv 0) T.cl T.tell_sorted.m G2 hr2 T.tell_sorted.b .nil pass0 (pa_cons (pe_ix ix_list (pv 1) pe_int (fun _ _ => rfl)) (pa_cons (pe_ix ix_list (pv 1) pe_int (fun _ _ => rfl)) pa_nil))))) pss_nil)
      (pss_cons (ps_if (pt_cmpR op_eq (pv 2) (gl_int T.gOVER) (nomark _)) (pss_one (ps_ret (pe_meth (pv 0) T.cl T.compare.m G3 hr3 T.compare.b .nil pass0 (pa_cons (pe_ix ix_list (pv 1) pe_int (fun _ _ => rfl)) (pa_cons (pe_ix ix_list (pv 1) pe_int (fun _ _ => rfl)) pa_nil))))) pss_nil)
      (pss_cons (ps_if (pt_cmpR op_eq (pv 2) (gl_int T.gMOVE) (nomark _)) (pss_one (ps_ret (pe_meth (pv 0) T.cl T.move.m G4 hr3 T.move.b .nil pass0 (pa_cons (pe_ix ix_list (pv 1) pe_int (fun _ _ => rfl)) (pa_cons (pe_ix ix_list (pv 1) pe_int (fun _ _ => rfl)) (pa_cons (pe_ix ix_list (pv 1) pe_int (fun _ _ => rfl)) (pa_cons (pe_ix ix_list (pv 1) pe_int (fun _ _ => rfl)) pa_nil))))))) pss_nil)
      (pss_cons (ps_if (pt_cmpR op_eq (pv 2) (gl_int T.gSTEP) (nomark _)) (pss_one (ps_ret (pe_meth (pv 0) T.cl T.take_step.m G5 hr3 T.take_step.b .nil pass0 (pa_cons (pe_ix ix_list (pv 1) pe_int (fun _ _ => rfl)) (pa_cons (pe_ix ix_list (pv 1) pe_int (fun _ _ => rfl)) pa_nil))))) pss_nil)
      (pss_cons (ps_if (pt_cmpR op_eq (pv 2) (gl_int T.gMEET) (nomark _)) (pss_one (ps_ret (pe_meth (pv 0) T.cl T.meet.m G6 hr3 T.meet.b .nil pass0 (pa_cons (pe_ix ix_list (pv 1) pe_int (fun _ _ => rfl)) (pa_cons (pe_ix ix_list (pv 1) pe_int (fun _ _ => rfl)) (pa_cons (pe_ix ix_list (pv 1) pe_int (fun _ _ => rfl)) pa_nil)))))) pss_nil)
      (pss_cons (ps_if (pt_cmpR op_eq (pv 2) (gl_int T.gCOUNT) (nomark _)) (pss_one (ps_ret (pe_meth (pv 0) T.cl T.tell_count.m G7 hr3 T.tell_count.b .nil pass0 (pa_cons (pe_ix ix_list (pv 1) pe_int (fun _ _ => rfl)) (pa_cons (pe_ix ix_list (pv 1) pe_int (fun _ _ => rfl)) pa_nil))))) pss_nil)
      (pss_one (ps_ret (pe_meth (pv 0) T.cl T.tell_made.m G8 hr T.tell_made.b .nil pass0 (pa_cons (pe_ix ix_list (pv 1) pe_int (fun _ _ => rfl)) (pa_cons (pe_ix ix_list (pv 1) pe_int (fun _ _ => rfl)) (pa_cons (pe_ix ix_list (pv 1) pe_int (fun _ _ => rfl)) pa_nil)))))))))))))), ?_⟩
    refine ⟨_, rfl, b, _, 0, _, rfl, rfl, hb, ints_ix (flat0 c), ?_⟩
    cases c with
    | c0 =>
      refine ⟨_, rfl, rfl, _, rfl, iteEq rfl ⟨_, rfl, p, dx, _, rfl, hp, fl_no l (by decide +kernel), p, l, as, s, rfl, R, g, k⟩⟩
    | c1 i r =>
      refine ⟨_, rfl, rfl, _, rfl, iteNe (show (1 : Int) ≠ 0 by decide) ⟨_, rfl, rfl, _, rfl, iteEq rfl ⟨_, rfl, p, dx, _, rfl, hp, fl_no l (by decide +kernel), ?_⟩⟩⟩
      refine ⟨_, rfl, b, _, 1, _, rfl, rfl, hb, ints_ix (j := 1) rfl, _, rfl, a.lens, _, _, 3, rfl, rfl, T.kLENGTHS, rfl, 3, rfl, b, _, rfl, hb, fun e he => ?_⟩
      have sm : Same H (upd H e (.lst (cutV ((Cl.c1 i r).flat.map V.int) (some 3) none))) := same_new he
      have ec : cutV ((Cl.c1 i r).flat.map V.int) (some 3) none = iv r := cut_from (n := 3) _
      refine ⟨p, l, as, s, i, e, r, rfl, R.mono sm, g, SqL.of (by rw [upd_same, ec]), hc, fun H' l' q as' R' hq hq0 kp hl' hx' => ?_⟩
      refine k H' l' q as' R' hq (sm.free hq0) (fun b o e nb nl => kp b o (sm b o e) nb nl) ?_ fun x hx => ?_
      · rcases hl' with z | z
        · exact .inl z
        · exact .inr (sm.free z)
      · rcases hx' x hx with z | z
        · exact .inl z
        · exact .inr (sm.free z)
    | c2 i m =>
      refine ⟨_, rfl, rfl, _, rfl, iteNe (show (2 : Int) ≠ 0 by decide) ⟨_, rfl, rfl, _, rfl, iteNe (show (2 : Int) ≠ 1 by decide) ⟨_, rfl, rfl, _, rfl, iteEq rfl ⟨_, rfl, p, dx, _, rfl, hp, fl_no l (by decide +kernel), ?_⟩⟩⟩⟩
      exact ⟨_, rfl, b, _, 1, _, rfl, rfl, hb, ints_ix (j := 1) rfl, _, rfl, b, _, 2, _, rfl, rfl, hb, ints_ix (j := 2) rfl, p, l, as, s, i, m, rfl, R, g, k⟩
    | c3 i j =>
      refine ⟨_, rfl, rfl, _, rfl, iteNe (show (3 : Int) ≠ 0 by decide) ⟨_, rfl, rfl, _, rfl, iteNe (show (3 : Int) ≠ 1 by decide) ⟨_, rfl, rfl, _, rfl, iteNe (show (3 : Int) ≠ 2 by decide) ⟨_, rfl, rfl, _, rfl, iteEq rfl ⟨_, rfl, p, dx, _, rfl, hp, fl_no l (by decide +kernel), ?_⟩⟩⟩⟩⟩
      exact ⟨_, rfl, b, _, 1, _, rfl, rfl, hb, ints_ix (j := 1) rfl, _, rfl, b, _, 2, _, rfl, rfl, hb, ints_ix (j := 2) rfl, p, l, as, s, i, j, rfl, R, g, k⟩
    | c4 i x y n =>
      refine ⟨_, rfl, rfl, _, rfl, iteNe (show (4 : Int) ≠ 0 by decide) ⟨_, rfl, rfl, _, rfl, iteNe (show (4 : Int) ≠ 1 by decide) ⟨_, rfl, rfl, _, rfl, iteNe (show (4 : Int) ≠ 2 by decide) ⟨_, rfl, rfl, _, rfl, iteNe (show (4 : Int) ≠ 3 by decide) ⟨_, rfl, rfl, _, rfl, iteEq rfl ⟨_, rfl, p, dx, _, rfl, hp, fl_no l (by decide +kernel), ?_⟩⟩⟩⟩⟩⟩
      exact ⟨_, rfl, b, _, 1, _, rfl, rfl, hb, ints_ix (j := 1) rfl, _, rfl, b, _, 2, _, rfl, rfl, hb, ints_ix (j := 2) rfl, _, rfl, b, _, 3, _, rfl, rfl, hb, ints_ix (j := 3) rfl, _, rfl, b, _, 4, _, rfl, rfl, hb, ints_ix (j := 4) rfl, p, l, as, s, i, x, y, n, rfl, R, g, k⟩
    | c5 i j =>
      refine ⟨_, rfl, rfl, _, rfl, iteNe (show (5 : Int) ≠ 0 by decide) ⟨_, rfl, rfl, _, rfl, iteNe (show (5 : Int) ≠ 1 by decide) ⟨_, rfl, rfl, _, rfl, iteNe (show (5 : Int) ≠ 2 by decide) ⟨_, rfl, rfl, _, rfl, iteNe (show (5 : Int) ≠ 3 by decide) ⟨_, rfl, rfl, _, rfl, iteNe (show (5 : Int) ≠ 4 by decide) ⟨_, rfl, rfl, _, rfl, iteEq rfl ⟨_, rfl, p, dx, _, rfl, hp, fl_no l (by decide +kernel), ?_⟩⟩⟩⟩⟩⟩⟩
      exact ⟨_, rfl, b, _, 1, _, rfl, rfl, hb, ints_ix (j := 1) rfl, _, rfl, b, _, 2, _, rfl, rfl, hb, ints_ix (j := 2) rfl, p, l, as, s, i, j, rfl, R, g, k⟩
    | c6 i j x =>
      refine ⟨_, rfl, rfl, _, rfl, iteNe (show (6 : Int) ≠ 0 by decide) ⟨_, rfl, rfl, _, rfl, iteNe (show (6 : Int) ≠ 1 by decide) ⟨_, rfl, rfl, _, rfl, iteNe (show (6 : Int) ≠ 2 by decide) ⟨_, rfl, rfl, _, rfl, iteNe (show (6 : Int) ≠ 3 by decide) ⟨_, rfl, rfl, _, rfl, iteNe (show (6 : Int) ≠ 4 by decide) ⟨_, rfl, rfl, _, rfl, iteNe (show (6 : Int) ≠ 5 by decide) ⟨_, rfl, rfl, _, rfl, iteEq rfl ⟨_, rfl, p, dx, _, rfl, hp, fl_no l (by decide +kernel), ?_⟩⟩⟩⟩⟩⟩⟩⟩
      exact ⟨_, rfl, b, _, 1, _, rfl, rfl, hb, ints_ix (j := 1) rfl, _, rfl, b, _, 2, _, rfl, rfl, hb, ints_ix (j := 2) rfl, _, rfl, b, _, 3, _, rfl, rfl, hb, ints_ix (j := 3) rfl, p, l, as, s, i, j, x, rfl, R, g, k⟩
    | c7 i j =>
      refine ⟨_, rfl, rfl, _, rfl, iteNe (show (7 : Int) ≠ 0 by decide) ⟨_, rfl, rfl, _, rfl, iteNe (show (7 : Int) ≠ 1 by decide) ⟨_, rfl, rfl, _, rfl, iteNe (show (7 : Int) ≠ 2 by decide) ⟨_, rfl, rfl, _, rfl, iteNe (show (7 : Int) ≠ 3 by decide) ⟨_, rfl, rfl, _, rfl, iteNe (show (7 : Int) ≠ 4 by decide) ⟨_, rfl, rfl, _, rfl, iteNe (show (7 : Int) ≠ 5 by decide) ⟨_, rfl, rfl, _, rfl, iteNe (show (7 : Int) ≠ 6 by decide) ⟨_, rfl, rfl, _, rfl, iteEq rfl ⟨_, rfl, p, dx, _, rfl, hp, fl_no l (by decide +kernel), ?_⟩⟩⟩⟩⟩⟩⟩⟩⟩
      exact ⟨_, rfl, b, _, 1, _, rfl, rfl, hb, ints_ix (j := 1) rfl, _, rfl, b, _, 2, _, rfl, rfl, hb, ints_ix (j := 2) rfl, p, l, as, s, i, j, rfl, R, g, k⟩
    | c8 i j m =>
      refine ⟨_, rfl, rfl, _, rfl, iteNe (show (8 : Int) ≠ 0 by decide) ⟨_, rfl, rfl, _, rfl, iteNe (show (8 : Int) ≠ 1 by decide) ⟨_, rfl, rfl, _, rfl, iteNe (show (8 : Int) ≠ 2 by decide) ⟨_, rfl, rfl, _, rfl, iteNe (show (8 : Int) ≠ 3 by decide) ⟨_, rfl, rfl, _, rfl, iteNe (show (8 : Int) ≠ 4 by decide) ⟨_, rfl, rfl, _, rfl, iteNe (show (8 : Int) ≠ 5 by decide) ⟨_, rfl, rfl, _, rfl, iteNe (show (8 : Int) ≠ 6 by decide) ⟨_, rfl, rfl, _, rfl, iteNe (show (8 : Int) ≠ 7 by decide) ⟨_, rfl, p, dx, _, rfl, hp, fl_no l (by decide +kernel), ?_⟩⟩⟩⟩⟩⟩⟩⟩⟩
      exact ⟨_, rfl, b, _, 1, _, rfl, rfl, hb, ints_ix (j := 1) rfl, _, rfl, b, _, 2, _, rfl, rfl, hb, ints_ix (j := 2) rfl, _, rfl, b, _, 3, _, rfl, rfl, hb, ints_ix (j := 3) rfl, p, l, as, s, i, j, m, rfl, R, g, hT, k⟩
end
end Ev
end
section
set_option Elab.async false
set_option linter.all false
set_option autoImplicit false
set_option maxRecDepth 100000
set_option maxHeartbeats 4000000
namespace Ev
open PySem PySem.Spec PyProof.Rows L2
theorem flatAll_app : ∀ (u v : List Cl), flatAll (u ++ v) = flatAll u ++ flatAll v
  | [], _ => rfl
  | c :: u, v => by
    show c.flat ++ flatAll (u ++ v) = (c.flat ++ flatAll u) ++ flatAll v
    rw [flatAll_app u v, List.append_assoc]
structure Lp (K : PySem.W.Frag) (C tb : Addr) (ks : List Cl) (b p t : Addr) (H : Hp) (st : Nat) (s : Rc94.Abs) (kd kr : List Cl) (l : Addr) (as : List Addr) (dn : List Int) : Prop where
  all : ks = kd ++ kr
  pos : st = (flatAll kd).length
  good : Good s
  rows : RowsAt C H p l as s.rows
  out : H t = some (.lst (dn.map V.int))
  ne : t ≠ l
  nas : t ∉ as
  eq : dn ++ toldAll s kr = toldAll {} ks
  arg : (b ≠ t ∧ Rd H b (.lst ((flatAll ks).map V.int))) ∨ (∀ H', SqL K H' b ((flatAll ks).map V.int))
  few : dn.length ≤ 14 * kd.length
  tab : H tb = some (.tbl tpN)
theorem Lp.sq {K : PySem.W.Frag} {C tb : Addr} {ks : List Cl} {b p t : Addr} {H : Hp} {st : Nat} {s : Rc94.Abs} {kd kr : List Cl} {l : Addr} {as : List Addr} {dn : List Int} (L : Lp K C tb ks b p t H st s kd kr l as dn) : SqL K H b ((flatAll ks).map V.int) := by
  rcases L.arg with h | h
  · exact .inl h.2
  · exact h H
section
variable {P : Program} {w : World} {K : PySem.W.Frag} {mg : Str → Option Value} {base : Heap} {a : Ads}
def sp_answers (K : PySem.W.Frag) (tb : Addr) : Sp := fun vs H Q _ => ∃ (b : Addr) (ks : List Cl), vs = [.ref b] ∧ SqL K H b ((flatAll ks).map V.int) ∧ (∀ c ∈ ks, c.good) ∧ ks.length ≤ 400 ∧ H tb = some (.tbl tpN) ∧ ∀ (H' : Hp) (q : Addr), H' q = some (.lst ((toldAll {} ks).map V.int)) → Q (.ref q) H'
def left (n : Nat) (σ : List (Option V)) : Nat := match (σ[3]? : Option (Option V)) with
  | some (some (V.int z)) => ((n : Int) - z).toNat
  | _ => 0
theorem sc_answers : FnScope ["calls", "held", "told", "start", "end", "answer"] ["calls"] (defScope s_answers) := ⟨rfl, rfl, rfl, by decide +kernel, rfl, by decide +kernel, by decide +kernel⟩
theorem ok_answers {f : Addr} {fd : FuncData} (F : Fun K "answers" "answers" s_answers f fd) (T : Txt K mg a) (NB : NeedB mg base a.cc a.tb) : FnOk P w K mg base CX0 7 f fd ["calls"] (sp_answers K a.tb) := by
  have G0 : FnOk P w K mg base CX0 2 a.init.a a.init.d ["self"] (sp_init a.C) := ok_init T
  have G1 : FnOk P w K mg base CX0 1 a.end_of_call.a a.end_of_call.d ["calls", "start"] (sp_end_of_call K) := ok_end_of_call T
  have G2 : FnOk P w K mg base CX0 6 a.answer_call.a a.answer_call.d ["held", "call"] (sp_answer_call K a.C a.tb) := ok_answer_call T NB
  refine F.ok sc_answers (fun vs H Q E h => ?_) (fun cdv A outer s H vs Q E hr h => ?_)
  · obtain ⟨b, ks, rfl, _⟩ := h
    rfl
  · obtain ⟨b, ks, rfl, hb, hks, h400, hT, k⟩ := h
    have hr1 : Room 1 _ := hr.mono (by decide)
    have hr3 : Room 3 _ := hr.mono (by decide)
    refine ⟨_, pss_cons (ps_set (i := 1) sc_answers.nd rfl (Or.inl rfl) (pe_make0 T.mkC G0 hr3 rfl T.mgC T.init.b .nil pass0))
      (pss_cons (ps_set (i := 2) sc_answers.nd rfl (Or.inl rfl) (pe_lst pa_nil))
      (pss_cons (ps_set (i := 3) sc_answers.nd rfl (Or.inl rfl) pe_int)
      (pss_cons (ps_while PassesOwn.never (pt_cmpR op_lt (pv 3) (pe_callB call_len_seq (by rfl) T.len PySem.boot_len (pa_cons (pv 0) pa_nil)) (nomark _)) (pss_cons (ps_set (i := 4) sc_answers.nd rfl (Or.inl rfl) (pe_call G1 hr1 rfl T.end_of_call.m T.end_of_call.k T.end_of_call.b .nil pass0 (pa_cons (pv 0) (pa_cons (pv 3) pa_nil))))
      (pss_cons (ps_set (i := 5) sc_answers.nd rfl (Or.inl rfl) (pe_call G2 hr rfl T.answer_call.m T.answer_call.k T.answer_call.b .nil pass0 (pa_cons (pv 1) (pa_cons (pe_slice sl_list (pv 0) (po_some (pv 3)) (po_some (pv 4))) pa_nil))))
      (pss_cons (ps_expr (pe_bm PySem.F.plainAttrs_list PySem.F.slot_list_append PySem.F.type_list_append mt_append (pv 2) (pa_cons (pe_callB call_len_seq (by rfl) T.len PySem.boot_len (pa_cons (pv 5) pa_nil)) pa_nil)))
      (pss_cons (ps_expr (pe_bm PySem.F.plainAttrs_list PySem.F.slot_list_extend PySem.F.type_list_extend mt_extend (pv 2) (pa_cons (pv 5) pa_nil)))
      (pss_one (ps_set (i := 3) sc_answers.nd rfl (Or.inl rfl) (pv 4))))))))
      (pss_one (ps_ret (pv 2)))))), ?_⟩
    intro p dx np nd ndp
    refine ⟨p, dx, rfl, upd_same, fun H1 l as R hl kp => ⟨rfl, Nat.zero_le _, fun t ht => ?_⟩⟩
    have s1 : Same H H1 := Same.made np nd kp
    have s2 : Same H1 (upd H1 t (.lst [])) := same_new ht
    have ha0 : (b ≠ t ∧ Rd (upd H1 t (.lst [])) b (.lst ((flatAll ks).map V.int))) ∨ (∀ H', SqL K H' b ((flatAll ks).map V.int)) := by
      rcases hb with (h | ⟨o, h⟩) | h
      · exact .inl ⟨ne_of_none (s1 _ _ h) ht, .inl ((s1.trans s2) _ _ h)⟩
      · exact .inl ⟨ne_of_none (s1 _ _ h) ht, .inr ⟨o, (s1.trans s2) _ _ h⟩⟩
      · exact .inr fun H' => .inr h
    have na0 : t ∉ as := fun z => by
      obtain ⟨j, hj⟩ := List.getElem?_of_mem z
      obtain ⟨r, _, h2⟩ := R.at_.row j t hj
      rw [ht] at h2
      cases h2
    have L0 : Lp K a.C a.tb ks b p t (upd H1 t (.lst [])) 0 {} [] ks l as [] :=
      ⟨rfl, rfl, good0, R.mono s2, upd_same, Ne.symm (ne_of_none R.at_.lst ht), na0, rfl, ha0, Nat.zero_le _, (s1.trans s2) _ _ hT⟩
    refine while_by (fun σ H' => ∃ (st : Nat) (s : Rc94.Abs) (kd kr : List Cl) (l : Addr) (as : List Addr) (dn : List Int) (v4 v5 : Option V),
        σ = [some (.ref b), some (.ref p), some (.ref t), some (.int (st : Int)), v4, v5] ∧ Lp K a.C a.tb ks b p t H' st s kd kr l as dn)
      (fun σ _ => left (flatAll ks).length σ) ⟨0, {}, [], ks, l, as, [], none, none, rfl, L0⟩ ?_ ?_
    · rintro σ H' ⟨st, s, kd, kr, l, as, dn, v4, v5, rfl, L⟩
      refine ⟨_, rfl, _, rfl, b, _, rfl, .inl L.sq, _, _, rfl, rfl, _, rfl, ite2 (fun q => ?_) (fun q => ?_)⟩
      · have q := of_decide_eq_true q
        rw [List.length_map] at q
        cases kr with
        | nil =>
          have e := L.pos
          rw [L.all, List.append_nil] at q
          omega
        | cons c kr =>
          have hd : (flatAll ks).drop st = c.flat ++ flatAll kr := by
            rw [L.all, flatAll_app, L.pos]
            exact List.drop_left
          have mem : c ∈ ks := by rw [L.all]; exact List.mem_append_right _ (.head _)
          have cg := hks c mem
          have ck := all_known c
          refine ⟨_, rfl, _, rfl, b, flatAll ks, flatAll kr, st, c, rfl, L.sq, hd, ck, ?_⟩
          refine ⟨_, rfl, _, rfl, _, rfl, _, rfl, _, rfl, _, rfl, b, _, rfl, L.sq, fun e he => ?_⟩
          rw [cut_call hd (by omega)] at *
          have se : Same H' (upd H' e (.lst (c.flat.map V.int))) := same_new he
          refine ⟨p, l, as, s, e, c, rfl, L.rows.mono se, L.good, SqL.of upd_same, cg, se _ _ L.tab, fun H3 l' q' as' R' hq hq0 kp' hl' hx' => ?_⟩
          obtain ⟨dx', hp'⟩ := L.rows.obj
          have ntp : t ≠ p := ne_of L.out hp' (by intro z; cases z)
          have ht3 : H3 t = some (.lst (dn.map V.int)) := kp' _ _ (se _ _ L.out) ntp L.ne
          have ntq : t ≠ q' := ne_of_none (se _ _ L.out) hq0
          have hal := ans_len s c
          have hdl : dn.length ≤ 5600 := by
            have h1 := L.few
            have h2 : kd.length ≤ 400 := by
              have e2 : ks.length = kd.length + (c :: kr).length := by rw [L.all, List.length_append]
              omega
            omega
          have hsz : sizeLine = 16777216 := sizeLine_eq
          refine ⟨_, rfl, .inl ⟨rfl, _, SqL.of ht3⟩, _, rfl, q', _, rfl, .inl (SqL.of hq), t, _, _, rfl, rfl, ht3, (by rw [List.length_map]; omega), ?_⟩
          have hq4 : (upd H3 t (.lst (dn.map V.int ++ [V.int ((((ansOf (Rc94.does s c.call).2).map V.int).length : Nat) : Int)]))) q' = some (.lst ((ansOf (Rc94.does s c.call).2).map V.int)) := by
            rw [upd_ne (Ne.symm ntq)]
            exact hq
          refine ⟨_, rfl, .inl ⟨rfl, _, SqL.of upd_same⟩, _, rfl, t, q', _, _, rfl, rfl, upd_same, hq4, (by rw [List.length_append, List.length_map, List.length_map]; show _ + 1 + _ ≤ _; omega), ?_⟩
          rw [upd_upd]
          refine ⟨_, rfl, ⟨st + c.flat.length, (Rc94.does s c.call).1, kd ++ [c], kr, l', as', dn ++ (((ansOf (Rc94.does s c.call).2).length : Int) :: ansOf (Rc94.does s c.call).2), _, _, rfl, ?_⟩, ?_⟩
          · have ntl' : t ≠ l' := by
              rcases hl' with z | z
              · rw [z]; exact L.ne
              · exact ne_of_none (se _ _ L.out) z
            obtain ⟨dx3, hp3⟩ := R'.obj
            have g' := good_does L.good c
            have ne' := R'.at_.ne g'
            have hset : dn.map V.int ++ [V.int ((((ansOf (Rc94.does s c.call).2).map V.int).length : Nat) : Int)] ++ (ansOf (Rc94.does s c.call).2).map V.int = (dn ++ (((ansOf (Rc94.does s c.call).2).length : Int) :: ansOf (Rc94.does s c.call).2)).map V.int := by
              rw [List.length_map, List.map_append, List.append_assoc]
              rfl
            rw [hset]
            have na' : t ∉ as' := fun z => by
              rcases hx' t z with z | z
              · exact L.nas z
              · rw [se _ _ L.out] at z
                cases z
            refine ⟨by rw [L.all, List.append_assoc]; rfl, by rw [flatAll_app, List.length_append, ← L.pos]; show _ = st + (c.flat ++ []).length; rw [List.append_nil], g', ?_, upd_same, ntl', na', ?_, ?_, ?_, ?_⟩
            · refine ⟨⟨dx3, by rw [upd_ne (Ne.symm (ne_of ht3 hp3 (by intro z; cases z)))]; exact hp3⟩, by rw [upd_ne (Ne.symm ntl')]; exact R'.at_.lst, R'.at_.len, fun j x hx => ?_⟩
              obtain ⟨r, h1, h2⟩ := R'.at_.row j x hx
              have nxt : x ≠ t := fun z => na' (by rw [← z]; exact List.mem_of_getElem? hx)
              exact ⟨r, h1, by rw [upd_ne nxt]; exact h2⟩
            · rw [List.append_assoc, ← L.eq]
              rfl
            · rcases L.arg with ⟨nb, h⟩ | h
              · refine .inl ⟨nb, ?_⟩
                rcases h with h | ⟨o, h⟩
                · left
                  rw [upd_ne nb]
                  exact kp' _ _ (se _ _ h) (ne_of h hp' (by intro z; cases z)) (Ne.symm (ne_of L.rows.at_.lst h (ref_ints (L.rows.at_.ne L.good))))
                · right
                  refine ⟨o, ?_⟩
                  rw [upd_ne nb]
                  exact kp' _ _ (se _ _ h) (ne_of h hp' (by intro z; cases z)) (ne_of h L.rows.at_.lst (by intro z; cases z))
              · exact .inr h
            · rw [List.length_append, List.length_append]
              have := L.few
              show _ + (_ + 1) ≤ 14 * (_ + 1)
              omega
            · have hT3 := kp' _ _ (se _ _ L.tab) (ne_of L.tab hp' (by intro z; cases z)) (ne_of L.tab L.rows.at_.lst (by intro z; cases z))
              rw [upd_ne (ne_of hT3 ht3 (by intro z; cases z))]
              exact hT3
          · show left _ [_, _, _, some (.int ((st + c.flat.length : Nat) : Int)), _, _] < left _ [_, _, _, some (.int (st : Int)), _, _]
            show (((flatAll ks).length : Int) - ((st + c.flat.length : Nat) : Int)).toNat < (((flatAll ks).length : Int) - (st : Int)).toNat
            have := flat_pos c
            omega
      · have q : ¬ ((st : Int) < (((flatAll ks).map V.int).length : Int)) := fun z => q (decide_eq_true z)
        rw [List.length_map] at q
        cases kr with
        | nil =>
          have e := L.eq
          rw [show toldAll s [] = [] from rfl, List.append_nil] at e
          exact ⟨_, rfl, k _ t (e ▸ L.out)⟩
        | cons c kr =>
          have e := L.pos
          have := flat_pos c
          rw [L.all, flatAll_app, List.length_append] at q
          have e2 : (flatAll (c :: kr)).length = c.flat.length + (flatAll kr).length := List.length_append
          omega
    · rintro σ H' Q1 Q2 imp ⟨v, e1, v2, e2, x, ys, e3, h3, i, j, e4, e5, z, e6, q⟩
      exact ⟨v, e1, v2, e2, x, ys, e3, h3, i, j, e4, e5, z, e6, imp _ _ q⟩
end
end Ev
end
section
set_option Elab.async false
set_option linter.all false
set_option maxRecDepth 100000
set_option maxHeartbeats 4000000
namespace Ev
open PySem PySem.Spec PyProof.Rows L2
def DOk (es : Array DictEntry) : Prop := (∀ e ∈ es.toList, ∃ k t, e.key = .int k t ∧ e.hash = hashInt k) ∧ ∀ k v, lensOf k = some v → ∃ t, findBy Value.isInt es k = some (.int v t)
theorem dok (t0 u0 t1 u1 t2 u2 t3 u3 t4 u4 t5 u5 t6 u6 t7 u7 t8 u8 : Tok) : DOk #[{ hash := 0, key := .int 0 t0, val := .int 1 u0 }, { hash := 1, key := .int 1 t1, val := .int 3 u1 }, { hash := 2, key := .int 2 t2, val := .int 3 u2 }, { hash := 3, key := .int 3 t3, val := .int 3 u3 }, { hash := 4, key := .int 4 t4, val := .int 5 u4 }, { hash := 5, key := .int 5 t5, val := .int 3 u5 }, { hash := 6, key := .int 6 t6, val := .int 4 u6 }, { hash := 7, key := .int 7 t7, val := .int 3 u7 }, { hash := 8, key := .int 8 t8, val := .int 4 u8 }] := by
  refine ⟨fun e he => ?_, fun k v h => ?_⟩
  · simp only [List.mem_cons, List.not_mem_nil, or_false] at he
    rcases he with rfl | rfl | rfl | rfl | rfl | rfl | rfl | rfl | rfl
    · exact ⟨0, t0, rfl, rfl⟩
    · exact ⟨1, t1, rfl, rfl⟩
    · exact ⟨2, t2, rfl, rfl⟩
    · exact ⟨3, t3, rfl, rfl⟩
    · exact ⟨4, t4, rfl, rfl⟩
    · exact ⟨5, t5, rfl, rfl⟩
    · exact ⟨6, t6, rfl, rfl⟩
    · exact ⟨7, t7, rfl, rfl⟩
    · exact ⟨8, t8, rfl, rfl⟩
  · unfold lensOf at h
    by_cases e0 : k = 0
    · subst e0
      rw [if_pos rfl] at h
      cases h
      exact ⟨u0, rfl⟩
    rw [if_neg e0] at h
    by_cases e1 : k = 1
    · subst e1
      rw [if_pos rfl] at h
      cases h
      exact ⟨u1, rfl⟩
    rw [if_neg e1] at h
    by_cases e2 : k = 2
    · subst e2
      rw [if_pos rfl] at h
      cases h
      exact ⟨u2, rfl⟩
    rw [if_neg e2] at h
    by_cases e3 : k = 3
    · subst e3
      rw [if_pos rfl] at h
      cases h
      exact ⟨u3, rfl⟩
    rw [if_neg e3] at h
    by_cases e4 : k = 4
    · subst e4
      rw [if_pos rfl] at h
      cases h
      exact ⟨u4, rfl⟩
    rw [if_neg e4] at h
    by_cases e5 : k = 5
    · subst e5
      rw [if_pos rfl] at h
      cases h
      exact ⟨u5, rfl⟩
    rw [if_neg e5] at h
    by_cases e6 : k = 6
    · subst e6
      rw [if_pos rfl] at h
      cases h
      exact ⟨u6, rfl⟩
    rw [if_neg e6] at h
    by_cases e7 : k = 7
    · subst e7
      rw [if_pos rfl] at h
      cases h
      exact ⟨u7, rfl⟩
    rw [if_neg e7] at h
    by_cases e8 : k = 8
    · subst e8
      rw [if_pos rfl] at h
      cases h
      exact ⟨u8, rfl⟩
    rw [if_neg e8] at h
    cases h
theorem request {K : PySem.W.Frag} {H : Hp} {b tb : Addr} {ns : List Int} (hT : H tb = some (.tbl tpN)) (hask : PyRc94.answers_asked ns = true) (hs : SqL K H b (ns.map V.int)) :
    sp_answers K tb [.ref b] H (fun v H2 => Dw K H2 v (.list ((PyRc94.answers ns).map PySem.W.WData.int))) fun _ _ _ => False := by
  obtain ⟨ks, e, hg, hl, ea⟩ := asked_is hask
  subst e
  exact ⟨b, ks, rfl, hs, hg, hl, hT, fun H2 q hq => by rw [ea]; exact .lst (SqL.of hq) (dw_ints _)⟩
theorem all_mk {P : Program} {w : World} {K : PySem.W.Frag} {h : Heap} {mg : Str → Option Value} {fa C cc tb : Addr} (X : K.In h) (G : h.Ns mainGlobals mg) (hfa : mg "answers" = some (.ref fa))
    (aC : PySem.W.nsIn K mainGlobals "FourRows" = some (some (.ref C)))
    {t_ROWS : Tok} (g_ROWS : PySem.W.nsIn K mainGlobals "ROWS" = some (some (.int 4 t_ROWS)))
    {t_LONGEST : Tok} (g_LONGEST : PySem.W.nsIn K mainGlobals "LONGEST" = some (some (.int 12 t_LONGEST)))
    {t_GREATEST : Tok} (g_GREATEST : PySem.W.nsIn K mainGlobals "GREATEST" = some (some (.int 1000 t_GREATEST)))
    {t_LONGEST_COUNTED : Tok} (g_LONGEST_COUNTED : PySem.W.nsIn K mainGlobals "LONGEST_COUNTED" = some (some (.int 6 t_LONGEST_COUNTED)))
    {t_GREATEST_COUNTED : Tok} (g_GREATEST_COUNTED : PySem.W.nsIn K mainGlobals "GREATEST_COUNTED" = some (some (.int 6 t_GREATEST_COUNTED)))
    {t_BEGIN : Tok} (g_BEGIN : PySem.W.nsIn K mainGlobals "BEGIN" = some (some (.int 0 t_BEGIN)))
    {t_ROW : Tok} (g_ROW : PySem.W.nsIn K mainGlobals "ROW" = some (some (.int 1 t_ROW)))
    {t_SORTED : Tok} (g_SORTED : PySem.W.nsIn K mainGlobals "SORTED" = some (some (.int 2 t_SORTED)))
    {t_OVER : Tok} (g_OVER : PySem.W.nsIn K mainGlobals "OVER" = some (some (.int 3 t_OVER)))
    {t_MOVE : Tok} (g_MOVE : PySem.W.nsIn K mainGlobals "MOVE" = some (some (.int 4 t_MOVE)))
    {t_STEP : Tok} (g_STEP : PySem.W.nsIn K mainGlobals "STEP" = some (some (.int 5 t_STEP)))
    {t_MEET : Tok} (g_MEET : PySem.W.nsIn K mainGlobals "MEET" = some (some (.int 6 t_MEET)))
    {t_COUNT : Tok} (g_COUNT : PySem.W.nsIn K mainGlobals "COUNT" = some (some (.int 7 t_COUNT)))
    {t_OUTSIDE : Tok} (g_OUTSIDE : PySem.W.nsIn K mainGlobals "OUTSIDE" = some (some (.int (-1) t_OUTSIDE)))
    {t_TOO_MUCH : Tok} (g_TOO_MUCH : PySem.W.nsIn K mainGlobals "TOO_MUCH" = some (some (.int (-2) t_TOO_MUCH)))
    {t_NO_MATCH : Tok} (g_NO_MATCH : PySem.W.nsIn K mainGlobals "NO_MATCH" = some (some (.int (-4) t_NO_MATCH)))
    (b_len : PySem.W.nsIn K mainGlobals "len" = some none)
    (b_sum : PySem.W.nsIn K mainGlobals "sum" = some none)
    (b_max : PySem.W.nsIn K mainGlobals "max" = some none)
    (b_min : PySem.W.nsIn K mainGlobals "min" = some none)
    (b_sorted : PySem.W.nsIn K mainGlobals "sorted" = some none)
    (b_list : PySem.W.nsIn K mainGlobals "list" = some none)
    (b_range : PySem.W.nsIn K mainGlobals "range" = some none)
    (b_zip : PySem.W.nsIn K mainGlobals "zip" = some none)
    (b_tuple : PySem.W.nsIn K mainGlobals "tuple" = some none)
    (b_enumerate : PySem.W.nsIn K mainGlobals "enumerate" = some none)
    {aL nL : Nat} {es : Array DictEntry} (g_LENGTHS : PySem.W.nsIn K mainGlobals "LENGTHS" = some (some (.ref aL))) (l_LENGTHS : K.lookup aL = some ⟨.type "dict", none, .dict es nL, #[]⟩)
    {f_greatest_first : Addr} {od_greatest_first an_greatest_first : Option Addr} {sl_greatest_first : Array (Option Value)} {oc_greatest_first kV_greatest_first dc_greatest_first pm_greatest_first cd_greatest_first ct_greatest_first : Value}
    (a_greatest_first : PySem.W.nsIn K mainGlobals "greatest_first" = some (some (.ref f_greatest_first))) (l_greatest_first : K.lookup f_greatest_first = some ⟨oc_greatest_first, od_greatest_first, .func (PySem.W.fnOf "greatest_first" "greatest_first" (defArgs s_greatest_first) (defBody s_greatest_first) (defScope s_greatest_first) .none kV_greatest_first dc_greatest_first pm_greatest_first an_greatest_first cd_greatest_first ct_greatest_first), sl_greatest_first⟩) (c_greatest_first : PySem.W.codeIn K cd_greatest_first "greatest_first" = true) (k_greatest_first : PySem.W.keepIn K (.ref f_greatest_first) = true)
    {f_are_comparable : Addr} {od_are_comparable an_are_comparable : Option Addr} {sl_are_comparable : Array (Option Value)} {oc_are_comparable kV_are_comparable dc_are_comparable pm_are_comparable cd_are_comparable ct_are_comparable : Value}
    (a_are_comparable : PySem.W.nsIn K mainGlobals "are_comparable" = some (some (.ref f_are_comparable))) (l_are_comparable : K.lookup f_are_comparable = some ⟨oc_are_comparable, od_are_comparable, .func (PySem.W.fnOf "are_comparable" "are_comparable" (defArgs s_are_comparable) (defBody s_are_comparable) (defScope s_are_comparable) .none kV_are_comparable dc_are_comparable pm_are_comparable an_are_comparable cd_are_comparable ct_are_comparable), sl_are_comparable⟩) (c_are_comparable : PySem.W.codeIn K cd_are_comparable "are_comparable" = true) (k_are_comparable : PySem.W.keepIn K (.ref f_are_comparable) = true)
    {f_is_over : Addr} {od_is_over an_is_over : Option Addr} {sl_is_over : Array (Option Value)} {oc_is_over kV_is_over dc_is_over pm_is_over cd_is_over ct_is_over : Value}
    (a_is_over : PySem.W.nsIn K mainGlobals "is_over" = some (some (.ref f_is_over))) (l_is_over : K.lookup f_is_over = some ⟨oc_is_over, od_is_over, .func (PySem.W.fnOf "is_over" "is_over" (defArgs s_is_over) (defBody s_is_over) (defScope s_is_over) .none kV_is_over dc_is_over pm_is_over an_is_over cd_is_over ct_is_over), sl_is_over⟩) (c_is_over : PySem.W.codeIn K cd_is_over "is_over" = true) (k_is_over : PySem.W.keepIn K (.ref f_is_over) = true)
    {f_is_row_number : Addr} {od_is_row_number an_is_row_number : Option Addr} {sl_is_row_number : Array (Option Value)} {oc_is_row_number kV_is_row_number dc_is_row_number pm_is_row_number cd_is_row_number ct_is_row_number : Value}
    (a_is_row_number : PySem.W.nsIn K mainGlobals "is_row_number" = some (some (.ref f_is_row_number))) (l_is_row_number : K.lookup f_is_row_number = some ⟨oc_is_row_number, od_is_row_number, .func (PySem.W.fnOf "is_row_number" "is_row_number" (defArgs s_is_row_number) (defBody s_is_row_number) (defScope s_is_row_number) .none kV_is_row_number dc_is_row_number pm_is_row_number an_is_row_number cd_is_row_number ct_is_row_number), sl_is_row_number⟩) (c_is_row_number : PySem.W.codeIn K cd_is_row_number "is_row_number" = true) (k_is_row_number : PySem.W.keepIn K (.ref f_is_row_number) = true)
    {f_are_row_numbers : Addr} {od_are_row_numbers an_are_row_numbers : Option Addr} {sl_are_row_numbers : Array (Option Value)} {oc_are_row_numbers kV_are_row_numbers dc_are_row_numbers pm_are_row_numbers cd_are_row_numbers ct_are_row_numbers : Value}
    (a_are_row_numbers : PySem.W.nsIn K mainGlobals "are_row_numbers" = some (some (.ref f_are_row_numbers))) (l_are_row_numbers : K.lookup f_are_row_numbers = some ⟨oc_are_row_numbers, od_are_row_numbers, .func (PySem.W.fnOf "are_row_numbers" "are_row_numbers" (defArgs s_are_row_numbers) (defBody s_are_row_numbers) (defScope s_are_row_numbers) .none kV_are_row_numbers dc_are_row_numbers pm_are_row_numbers an_are_row_numbers cd_are_row_numbers ct_are_row_numbers), sl_are_row_numbers⟩) (c_are_row_numbers : PySem.W.codeIn K cd_are_row_numbers "are_row_numbers" = true) (k_are_row_numbers : PySem.W.keepIn K (.ref f_are_row_numbers) = true)
    {f_is_place : Addr} {od_is_place an_is_place : Option Addr} {sl_is_place : Array (Option Value)} {oc_is_place kV_is_place dc_is_place pm_is_place cd_is_place ct_is_place : Value}
    (a_is_place : PySem.W.nsIn K mainGlobals "is_place" = some (some (.ref f_is_place))) (l_is_place : K.lookup f_is_place = some ⟨oc_is_place, od_is_place, .func (PySem.W.fnOf "is_place" "is_place" (defArgs s_is_place) (defBody s_is_place) (defScope s_is_place) .none kV_is_place dc_is_place pm_is_place an_is_place cd_is_place ct_is_place), sl_is_place⟩) (c_is_place : PySem.W.codeIn K cd_is_place "is_place" = true) (k_is_place : PySem.W.keepIn K (.ref f_is_place) = true)
    {f_is_row : Addr} {od_is_row an_is_row : Option Addr} {sl_is_row : Array (Option Value)} {oc_is_row kV_is_row dc_is_row pm_is_row cd_is_row ct_is_row : Value}
    (a_is_row : PySem.W.nsIn K mainGlobals "is_row" = some (some (.ref f_is_row))) (l_is_row : K.lookup f_is_row = some ⟨oc_is_row, od_is_row, .func (PySem.W.fnOf "is_row" "is_row" (defArgs s_is_row) (defBody s_is_row) (defScope s_is_row) .none kV_is_row dc_is_row pm_is_row an_is_row cd_is_row ct_is_row), sl_is_row⟩) (c_is_row : PySem.W.codeIn K cd_is_row "is_row" = true) (k_is_row : PySem.W.keepIn K (.ref f_is_row) = true)
    {f_may_take : Addr} {od_may_take an_may_take : Option Addr} {sl_may_take : Array (Option Value)} {oc_may_take kV_may_take dc_may_take pm_may_take cd_may_take ct_may_take : Value}
    (a_may_take : PySem.W.nsIn K mainGlobals "may_take" = some (some (.ref f_may_take))) (l_may_take : K.lookup f_may_take = some ⟨oc_may_take, od_may_take, .func (PySem.W.fnOf "may_take" "may_take" (defArgs s_may_take) (defBody s_may_take) (defScope s_may_take) .none kV_may_take dc_may_take pm_may_take an_may_take cd_may_take ct_may_take), sl_may_take⟩) (c_may_take : PySem.W.codeIn K cd_may_take "may_take" = true) (k_may_take : PySem.W.keepIn K (.ref f_may_take) = true)
    {f_with_moved : Addr} {od_with_moved an_with_moved : Option Addr} {sl_with_moved : Array (Option Value)} {oc_with_moved kV_with_moved dc_with_moved pm_with_moved cd_with_moved ct_with_moved : Value}
    (a_with_moved : PySem.W.nsIn K mainGlobals "with_moved" = some (some (.ref f_with_moved))) (l_with_moved : K.lookup f_with_moved = some ⟨oc_with_moved, od_with_moved, .func (PySem.W.fnOf "with_moved" "with_moved" (defArgs s_with_moved) (defBody s_with_moved) (defScope s_with_moved) .none kV_with_moved dc_with_moved pm_with_moved an_with_moved cd_with_moved ct_with_moved), sl_with_moved⟩) (c_with_moved : PySem.W.codeIn K cd_with_moved "with_moved" = true) (k_with_moved : PySem.W.keepIn K (.ref f_with_moved) = true)
    {f_step_towards : Addr} {od_step_towards an_step_towards : Option Addr} {sl_step_towards : Array (Option Value)} {oc_step_towards kV_step_towards dc_step_towards pm_step_towards cd_step_towards ct_step_towards : Value}
    (a_step_towards : PySem.W.nsIn K mainGlobals "step_towards" = some (some (.ref f_step_towards))) (l_step_towards : K.lookup f_step_towards = some ⟨oc_step_towards, od_step_towards, .func (PySem.W.fnOf "step_towards" "step_towards" (defArgs s_step_towards) (defBody s_step_towards) (defScope s_step_towards) .none kV_step_towards dc_step_towards pm_step_towards an_step_towards cd_step_towards ct_step_towards), sl_step_towards⟩) (c_step_towards : PySem.W.codeIn K cd_step_towards "step_towards" = true) (k_step_towards : PySem.W.keepIn K (.ref f_step_towards) = true)
    {f_where_they_meet : Addr} {od_where_they_meet an_where_they_meet : Option Addr} {sl_where_they_meet : Array (Option Value)} {oc_where_they_meet kV_where_they_meet dc_where_they_meet pm_where_they_meet cd_where_they_meet ct_where_they_meet : Value}
    (a_where_they_meet : PySem.W.nsIn K mainGlobals "where_they_meet" = some (some (.ref f_where_they_meet))) (l_where_they_meet : K.lookup f_where_they_meet = some ⟨oc_where_they_meet, od_where_they_meet, .func (PySem.W.fnOf "where_they_meet" "where_they_meet" (defArgs s_where_they_meet) (defBody s_where_they_meet) (defScope s_where_they_meet) .none kV_where_they_meet dc_where_they_meet pm_where_they_meet an_where_they_meet cd_where_they_meet ct_where_they_meet), sl_where_they_meet⟩) (c_where_they_meet : PySem.W.codeIn K cd_where_they_meet "where_they_meet" = true) (k_where_they_meet : PySem.W.keepIn K (.ref f_where_they_meet) = true)
    {f_is_countable : Addr} {od_is_countable an_is_countable : Option Addr} {sl_is_countable : Array (Option Value)} {oc_is_countable kV_is_countable dc_is_countable pm_is_countable cd_is_countable ct_is_countable : Value}
    (a_is_countable : PySem.W.nsIn K mainGlobals "is_countable" = some (some (.ref f_is_countable))) (l_is_countable : K.lookup f_is_countable = some ⟨oc_is_countable, od_is_countable, .func (PySem.W.fnOf "is_countable" "is_countable" (defArgs s_is_countable) (defBody s_is_countable) (defScope s_is_countable) .none kV_is_countable dc_is_countable pm_is_countable an_is_countable cd_is_countable ct_is_countable), sl_is_countable⟩) (c_is_countable : PySem.W.codeIn K cd_is_countable "is_countable" = true) (k_is_countable : PySem.W.keepIn K (.ref f_is_countable) = true)
    {f_entries_of : Addr} {od_entries_of an_entries_of : Option Addr} {sl_entries_of : Array (Option Value)} {oc_entries_of kV_entries_of dc_entries_of pm_entries_of cd_entries_of ct_entries_of : Value}
    (a_entries_of : PySem.W.nsIn K mainGlobals "entries_of" = some (some (.ref f_entries_of))) (l_entries_of : K.lookup f_entries_of = some ⟨oc_entries_of, od_entries_of, .func (PySem.W.fnOf "entries_of" "entries_of" (defArgs s_entries_of) (defBody s_entries_of) (defScope s_entries_of) .none kV_entries_of dc_entries_of pm_entries_of an_entries_of cd_entries_of ct_entries_of), sl_entries_of⟩) (c_entries_of : PySem.W.codeIn K cd_entries_of "entries_of" = true) (k_entries_of : PySem.W.keepIn K (.ref f_entries_of) = true)
    {f_lines_with : Addr} {od_lines_with an_lines_with : Option Addr} {sl_lines_with : Array (Option Value)} {oc_lines_with kV_lines_with dc_lines_with pm_lines_with cd_lines_with ct_lines_with : Value}
    (a_lines_with : PySem.W.nsIn K mainGlobals "lines_with" = some (some (.ref f_lines_with))) (l_lines_with : K.lookup f_lines_with = some ⟨oc_lines_with, od_lines_with, .func (PySem.W.fnOf "lines_with" "lines_with" (defArgs s_lines_with) (defBody s_lines_with) (defScope s_lines_with) .none kV_lines_with dc_lines_with pm_lines_with an_lines_with cd_lines_with ct_lines_with), sl_lines_with⟩) (c_lines_with : PySem.W.codeIn K cd_lines_with "lines_with" = true) (k_lines_with : PySem.W.keepIn K (.ref f_lines_with) = true)
    {f_ways_behind : Addr} {od_ways_behind an_ways_behind : Option Addr} {sl_ways_behind : Array (Option Value)} {oc_ways_behind kV_ways_behind dc_ways_behind pm_ways_behind cd_ways_behind ct_ways_behind : Value}
    (a_ways_behind : PySem.W.nsIn K mainGlobals "ways_behind" = some (some (.ref f_ways_behind))) (l_ways_behind : K.lookup f_ways_behind = some ⟨oc_ways_behind, od_ways_behind, .func (PySem.W.fnOf "ways_behind" "ways_behind" (defArgs s_ways_behind) (defBody s_ways_behind) (defScope s_ways_behind) .none kV_ways_behind dc_ways_behind pm_ways_behind an_ways_behind cd_ways_behind ct_ways_behind), sl_ways_behind⟩) (c_ways_behind : PySem.W.codeIn K cd_ways_behind "ways_behind" = true) (k_ways_behind : PySem.W.keepIn K (.ref f_ways_behind) = true)
    {f_count_tables : Addr} {od_count_tables an_count_tables : Option Addr} {sl_count_tables : Array (Option Value)} {oc_count_tables kV_count_tables dc_count_tables pm_count_tables cd_count_tables ct_count_tables : Value}
    (a_count_tables : PySem.W.nsIn K mainGlobals "count_tables" = some (some (.ref f_count_tables))) (l_count_tables : K.lookup f_count_tables = some ⟨oc_count_tables, od_count_tables, .func (PySem.W.fnOf "count_tables" "count_tables" (defArgs s_count_tables) (defBody s_count_tables) (defScope s_count_tables) .none kV_count_tables dc_count_tables pm_count_tables an_count_tables cd_count_tables ct_count_tables), sl_count_tables⟩) (c_count_tables : PySem.W.codeIn K cd_count_tables "count_tables" = true) (k_count_tables : PySem.W.keepIn K (.ref f_count_tables) = true)
    {f_neediest : Addr} {od_neediest an_neediest : Option Addr} {sl_neediest : Array (Option Value)} {oc_neediest kV_neediest dc_neediest pm_neediest cd_neediest ct_neediest : Value}
    (a_neediest : PySem.W.nsIn K mainGlobals "neediest" = some (some (.ref f_neediest))) (l_neediest : K.lookup f_neediest = some ⟨oc_neediest, od_neediest, .func (PySem.W.fnOf "neediest" "neediest" (defArgs s_neediest) (defBody s_neediest) (defScope s_neediest) .none kV_neediest dc_neediest pm_neediest an_neediest cd_neediest ct_neediest), sl_neediest⟩) (c_neediest : PySem.W.codeIn K cd_neediest "neediest" = true) (k_neediest : PySem.W.keepIn K (.ref f_neediest) = true)
    {f_make_table : Addr} {od_make_table an_make_table : Option Addr} {sl_make_table : Array (Option Value)} {oc_make_table kV_make_table dc_make_table pm_make_table cd_make_table ct_make_table : Value}
    (a_make_table : PySem.W.nsIn K mainGlobals "make_table" = some (some (.ref f_make_table))) (l_make_table : K.lookup f_make_table = some ⟨oc_make_table, od_make_table, .func (PySem.W.fnOf "make_table" "make_table" (defArgs s_make_table) (defBody s_make_table) (defScope s_make_table) .none kV_make_table dc_make_table pm_make_table an_make_table cd_make_table ct_make_table), sl_make_table⟩) (c_make_table : PySem.W.codeIn K cd_make_table "make_table" = true) (k_make_table : PySem.W.keepIn K (.ref f_make_table) = true)
    {f_column_sum : Addr} {od_column_sum an_column_sum : Option Addr} {sl_column_sum : Array (Option Value)} {oc_column_sum kV_column_sum dc_column_sum pm_column_sum cd_column_sum ct_column_sum : Value}
    (a_column_sum : PySem.W.nsIn K mainGlobals "column_sum" = some (some (.ref f_column_sum))) (l_column_sum : K.lookup f_column_sum = some ⟨oc_column_sum, od_column_sum, .func (PySem.W.fnOf "column_sum" "column_sum" (defArgs s_column_sum) (defBody s_column_sum) (defScope s_column_sum) .none kV_column_sum dc_column_sum pm_column_sum an_column_sum cd_column_sum ct_column_sum), sl_column_sum⟩) (c_column_sum : PySem.W.codeIn K cd_column_sum "column_sum" = true) (k_column_sum : PySem.W.keepIn K (.ref f_column_sum) = true)
    {f_has_sums : Addr} {od_has_sums an_has_sums : Option Addr} {sl_has_sums : Array (Option Value)} {oc_has_sums kV_has_sums dc_has_sums pm_has_sums cd_has_sums ct_has_sums : Value}
    (a_has_sums : PySem.W.nsIn K mainGlobals "has_sums" = some (some (.ref f_has_sums))) (l_has_sums : K.lookup f_has_sums = some ⟨oc_has_sums, od_has_sums, .func (PySem.W.fnOf "has_sums" "has_sums" (defArgs s_has_sums) (defBody s_has_sums) (defScope s_has_sums) .none kV_has_sums dc_has_sums pm_has_sums an_has_sums cd_has_sums ct_has_sums), sl_has_sums⟩) (c_has_sums : PySem.W.codeIn K cd_has_sums "has_sums" = true) (k_has_sums : PySem.W.keepIn K (.ref f_has_sums) = true)
    {f_as_number : Addr} {od_as_number an_as_number : Option Addr} {sl_as_number : Array (Option Value)} {oc_as_number kV_as_number dc_as_number pm_as_number cd_as_number ct_as_number : Value}
    (a_as_number : PySem.W.nsIn K mainGlobals "as_number" = some (some (.ref f_as_number))) (l_as_number : K.lookup f_as_number = some ⟨oc_as_number, od_as_number, .func (PySem.W.fnOf "as_number" "as_number" (defArgs s_as_number) (defBody s_as_number) (defScope s_as_number) .none kV_as_number dc_as_number pm_as_number an_as_number cd_as_number ct_as_number), sl_as_number⟩) (c_as_number : PySem.W.codeIn K cd_as_number "as_number" = true) (k_as_number : PySem.W.keepIn K (.ref f_as_number) = true)
    {f_first_of : Addr} {od_first_of an_first_of : Option Addr} {sl_first_of : Array (Option Value)} {oc_first_of kV_first_of dc_first_of pm_first_of cd_first_of ct_first_of : Value}
    (a_first_of : PySem.W.nsIn K mainGlobals "first_of" = some (some (.ref f_first_of))) (l_first_of : K.lookup f_first_of = some ⟨oc_first_of, od_first_of, .func (PySem.W.fnOf "first_of" "first_of" (defArgs s_first_of) (defBody s_first_of) (defScope s_first_of) .none kV_first_of dc_first_of pm_first_of an_first_of cd_first_of ct_first_of), sl_first_of⟩) (c_first_of : PySem.W.codeIn K cd_first_of "first_of" = true) (k_first_of : PySem.W.keepIn K (.ref f_first_of) = true)
    {f_new_rows : Addr} {od_new_rows an_new_rows : Option Addr} {sl_new_rows : Array (Option Value)} {oc_new_rows kV_new_rows dc_new_rows pm_new_rows cd_new_rows ct_new_rows : Value}
    (a_new_rows : PySem.W.nsIn K mainGlobals "new_rows" = some (some (.ref f_new_rows))) (l_new_rows : K.lookup f_new_rows = some ⟨oc_new_rows, od_new_rows, .func (PySem.W.fnOf "new_rows" "new_rows" (defArgs s_new_rows) (defBody s_new_rows) (defScope s_new_rows) .none kV_new_rows dc_new_rows pm_new_rows an_new_rows cd_new_rows ct_new_rows), sl_new_rows⟩) (c_new_rows : PySem.W.codeIn K cd_new_rows "new_rows" = true) (k_new_rows : PySem.W.keepIn K (.ref f_new_rows) = true)
    {f_end_of_call : Addr} {od_end_of_call an_end_of_call : Option Addr} {sl_end_of_call : Array (Option Value)} {oc_end_of_call kV_end_of_call dc_end_of_call pm_end_of_call cd_end_of_call ct_end_of_call : Value}
    (a_end_of_call : PySem.W.nsIn K mainGlobals "end_of_call" = some (some (.ref f_end_of_call))) (l_end_of_call : K.lookup f_end_of_call = some ⟨oc_end_of_call, od_end_of_call, .func (PySem.W.fnOf "end_of_call" "end_of_call" (defArgs s_end_of_call) (defBody s_end_of_call) (defScope s_end_of_call) .none kV_end_of_call dc_end_of_call pm_end_of_call an_end_of_call cd_end_of_call ct_end_of_call), sl_end_of_call⟩) (c_end_of_call : PySem.W.codeIn K cd_end_of_call "end_of_call" = true) (k_end_of_call : PySem.W.keepIn K (.ref f_end_of_call) = true)
    {f_answer_call : Addr} {od_answer_call an_answer_call : Option Addr} {sl_answer_call : Array (Option Value)} {oc_answer_call kV_answer_call dc_answer_call pm_answer_call cd_answer_call ct_answer_call : Value}
    (a_answer_call : PySem.W.nsIn K mainGlobals "answer_call" = some (some (.ref f_answer_call))) (l_answer_call : K.lookup f_answer_call = some ⟨oc_answer_call, od_answer_call, .func (PySem.W.fnOf "answer_call" "answer_call" (defArgs s_answer_call) (defBody s_answer_call) (defScope s_answer_call) .none kV_answer_call dc_answer_call pm_answer_call an_answer_call cd_answer_call ct_answer_call), sl_answer_call⟩) (c_answer_call : PySem.W.codeIn K cd_answer_call "answer_call" = true) (k_answer_call : PySem.W.keepIn K (.ref f_answer_call) = true)
    {f_answers : Addr} {od_answers an_answers : Option Addr} {sl_answers : Array (Option Value)} {oc_answers kV_answers dc_answers pm_answers cd_answers ct_answers : Value}
    (a_answers : PySem.W.nsIn K mainGlobals "answers" = some (some (.ref f_answers))) (l_answers : K.lookup f_answers = some ⟨oc_answers, od_answers, .func (PySem.W.fnOf "answers" "answers" (defArgs s_answers) (defBody s_answers) (defScope s_answers) .none kV_answers dc_answers pm_answers an_answers cd_answers ct_answers), sl_answers⟩) (c_answers : PySem.W.codeIn K cd_answers "answers" = true) (k_answers : PySem.W.keepIn K (.ref f_answers) = true)
    {f_init : Addr} {od_init an_init : Option Addr} {sl_init : Array (Option Value)} {oc_init kV_init dc_init pm_init cd_init ct_init : Value}
    (a_init : PySem.W.findIn K (.ref C) "__init__" = some (some (.ref f_init))) (i_init : PySem.W.isFn K (.ref f_init) = true) (l_init : K.lookup f_init = some ⟨oc_init, od_init, .func (PySem.W.fnOf "__init__" "FourRows.__init__" (defArgs s_init) (defBody s_init) (defScope s_init) .none kV_init dc_init pm_init an_init cd_init ct_init), sl_init⟩) (c_init : PySem.W.codeIn K cd_init "FourRows.__init__" = true) (k_init : PySem.W.keepIn K (.ref f_init) = true)
    {f_begin : Addr} {od_begin an_begin : Option Addr} {sl_begin : Array (Option Value)} {oc_begin kV_begin dc_begin pm_begin cd_begin ct_begin : Value}
    (a_begin : PySem.W.findIn K (.ref C) "begin" = some (some (.ref f_begin))) (i_begin : PySem.W.isFn K (.ref f_begin) = true) (l_begin : K.lookup f_begin = some ⟨oc_begin, od_begin, .func (PySem.W.fnOf "begin" "FourRows.begin" (defArgs s_begin) (defBody s_begin) (defScope s_begin) .none kV_begin dc_begin pm_begin an_begin cd_begin ct_begin), sl_begin⟩) (c_begin : PySem.W.codeIn K cd_begin "FourRows.begin" = true) (k_begin : PySem.W.keepIn K (.ref f_begin) = true)
    {f_put : Addr} {od_put an_put : Option Addr} {sl_put : Array (Option Value)} {oc_put kV_put dc_put pm_put cd_put ct_put : Value}
    (a_put : PySem.W.findIn K (.ref C) "put" = some (some (.ref f_put))) (i_put : PySem.W.isFn K (.ref f_put) = true) (l_put : K.lookup f_put = some ⟨oc_put, od_put, .func (PySem.W.fnOf "put" "FourRows.put" (defArgs s_put) (defBody s_put) (defScope s_put) .none kV_put dc_put pm_put an_put cd_put ct_put), sl_put⟩) (c_put : PySem.W.codeIn K cd_put "FourRows.put" = true) (k_put : PySem.W.keepIn K (.ref f_put) = true)
    {f_tell_sorted : Addr} {od_tell_sorted an_tell_sorted : Option Addr} {sl_tell_sorted : Array (Option Value)} {oc_tell_sorted kV_tell_sorted dc_tell_sorted pm_tell_sorted cd_tell_sorted ct_tell_sorted : Value}
    (a_tell_sorted : PySem.W.findIn K (.ref C) "tell_sorted" = some (some (.ref f_tell_sorted))) (i_tell_sorted : PySem.W.isFn K (.ref f_tell_sorted) = true) (l_tell_sorted : K.lookup f_tell_sorted = some ⟨oc_tell_sorted, od_tell_sorted, .func (PySem.W.fnOf "tell_sorted" "FourRows.tell_sorted" (defArgs s_tell_sorted) (defBody s_tell_sorted) (defScope s_tell_sorted) .none kV_tell_sorted dc_tell_sorted pm_tell_sorted an_tell_sorted cd_tell_sorted ct_tell_sorted), sl_tell_sorted⟩) (c_tell_sorted : PySem.W.codeIn K cd_tell_sorted "FourRows.tell_sorted" = true) (k_tell_sorted : PySem.W.keepIn K (.ref f_tell_sorted) = true)
    {f_compare : Addr} {od_compare an_compare : Option Addr} {sl_compare : Array (Option Value)} {oc_compare kV_compare dc_compare pm_compare cd_compare ct_compare : Value}
    (a_compare : PySem.W.findIn K (.ref C) "compare" = some (some (.ref f_compare))) (i_compare : PySem.W.isFn K (.ref f_compare) = true) (l_compare : K.lookup f_compare = some ⟨oc_compare, od_compare, .func (PySem.W.fnOf "compare" "FourRows.compare" (defArgs s_compare) (defBody s_compare) (defScope s_compare) .none kV_compare dc_compare pm_compare an_compare cd_compare ct_compare), sl_compare⟩) (c_compare : PySem.W.codeIn K cd_compare "FourRows.compare" = true) (k_compare : PySem.W.keepIn K (.ref f_compare) = true)
    {f_move : Addr} {od_move an_move : Option Addr} {sl_move : Array (Option Value)} {oc_move kV_move dc_move pm_move cd_move ct_move : Value}
    (a_move : PySem.W.findIn K (.ref C) "move" = some (some (.ref f_move))) (i_move : PySem.W.isFn K (.ref f_move) = true) (l_move : K.lookup f_move = some ⟨oc_move, od_move, .func (PySem.W.fnOf "move" "FourRows.move" (defArgs s_move) (defBody s_move) (defScope s_move) .none kV_move dc_move pm_move an_move cd_move ct_move), sl_move⟩) (c_move : PySem.W.codeIn K cd_move "FourRows.move" = true) (k_move : PySem.W.keepIn K (.ref f_move) = true)
    {f_take_step : Addr} {od_take_step an_take_step : Option Addr} {sl_take_step : Array (Option Value)} {oc_take_step kV_take_step dc_take_step pm_take_step cd_take_step ct_take_step : Value}
    (a_take_step : PySem.W.findIn K (.ref C) "take_step" = some (some (.ref f_take_step))) (i_take_step : PySem.W.isFn K (.ref f_take_step) = true) (l_take_step : K.lookup f_take_step = some ⟨oc_take_step, od_take_step, .func (PySem.W.fnOf "take_step" "FourRows.take_step" (defArgs s_take_step) (defBody s_take_step) (defScope s_take_step) .none kV_take_step dc_take_step pm_take_step an_take_step cd_take_step ct_take_step), sl_take_step⟩) (c_take_step : PySem.W.codeIn K cd_take_step "FourRows.take_step" = true) (k_take_step : PySem.W.keepIn K (.ref f_take_step) = true)
    {f_meet : Addr} {od_meet an_meet : Option Addr} {sl_meet : Array (Option Value)} {oc_meet kV_meet dc_meet pm_meet cd_meet ct_meet : Value}
    (a_meet : PySem.W.findIn K (.ref C) "meet" = some (some (.ref f_meet))) (i_meet : PySem.W.isFn K (.ref f_meet) = true) (l_meet : K.lookup f_meet = some ⟨oc_meet, od_meet, .func (PySem.W.fnOf "meet" "FourRows.meet" (defArgs s_meet) (defBody s_meet) (defScope s_meet) .none kV_meet dc_meet pm_meet an_meet cd_meet ct_meet), sl_meet⟩) (c_meet : PySem.W.codeIn K cd_meet "FourRows.meet" = true) (k_meet : PySem.W.keepIn K (.ref f_meet) = true)
    {f_tell_count : Addr} {od_tell_count an_tell_count : Option Addr} {sl_tell_count : Array (Option Value)} {oc_tell_count kV_tell_count dc_tell_count pm_tell_count cd_tell_count ct_tell_count : Value}
    (a_tell_count : PySem.W.findIn K (.ref C) "tell_count" = some (some (.ref f_tell_count))) (i_tell_count : PySem.W.isFn K (.ref f_tell_count) = true) (l_tell_count : K.lookup f_tell_count = some ⟨oc_tell_count, od_tell_count, .func (PySem.W.fnOf "tell_count" "FourRows.tell_count" (defArgs s_tell_count) (defBody s_tell_count) (defScope s_tell_count) .none kV_tell_count dc_tell_count pm_tell_count an_tell_count cd_tell_count ct_tell_count), sl_tell_count⟩) (c_tell_count : PySem.W.codeIn K cd_tell_count "FourRows.tell_count" = true) (k_tell_count : PySem.W.keepIn K (.ref f_tell_count) = true)
    {f_tell_made : Addr} {od_tell_made an_tell_made : Option Addr} {sl_tell_made : Array (Option Value)} {oc_tell_made kV_tell_made dc_tell_made pm_tell_made cd_tell_made ct_tell_made : Value}
    (a_tell_made : PySem.W.findIn K (.ref C) "tell_made" = some (some (.ref f_tell_made))) (i_tell_made : PySem.W.isFn K (.ref f_tell_made) = true) (l_tell_made : K.lookup f_tell_made = some ⟨oc_tell_made, od_tell_made, .func (PySem.W.fnOf "tell_made" "FourRows.tell_made" (defArgs s_tell_made) (defBody s_tell_made) (defScope s_tell_made) .none kV_tell_made dc_tell_made pm_tell_made an_tell_made cd_tell_made ct_tell_made), sl_tell_made⟩) (c_tell_made : PySem.W.codeIn K cd_tell_made "FourRows.tell_made" = true) (k_tell_made : PySem.W.keepIn K (.ref f_tell_made) = true)
    (pg : PySem.W.plainGet K C Str.empty = true) (hd : PySem.W.hasDictIn K C = true) (po : PySem.W.plainOver K C = true) (sa : PySem.W.findIn K (.ref C) "__setattr__" = some (some (.builtin "object.__setattr__"))) (mk : PySem.W.makesIn K C = true) (kc : PySem.W.keepIn K (.ref C) = true)
    (nR : PySem.W.findIn K (.ref C) "rows" = some none)
    (d_LENGTHS : DOk es) (h_code : cd_neediest = .ref cc) :
    ∃ fd : FuncData, (∀ (s : Shared) (us : List Value), us.length = (["calls"] : List Str).length → BindsTo s fd ⟨us, []⟩ ((["calls"] : List Str).zip us)) ∧ ∀ base : Heap, K.In base → base.Ns mainGlobals mg → NeedB mg base cc tb → FnOk P w K mg base CX0 7 fa fd ["calls"] (sp_answers K tb) := by
  have e := hfa.symm.trans (PySem.W.mg_of X G a_answers)
  cases e
  have F_greatest_first := fun_mk (st := s_greatest_first) l_greatest_first c_greatest_first k_greatest_first
  have F_are_comparable := fun_mk (st := s_are_comparable) l_are_comparable c_are_comparable k_are_comparable
  have F_is_over := fun_mk (st := s_is_over) l_is_over c_is_over k_is_over
  have F_is_row_number := fun_mk (st := s_is_row_number) l_is_row_number c_is_row_number k_is_row_number
  have F_are_row_numbers := fun_mk (st := s_are_row_numbers) l_are_row_numbers c_are_row_numbers k_are_row_numbers
  have F_is_place := fun_mk (st := s_is_place) l_is_place c_is_place k_is_place
  have F_is_row := fun_mk (st := s_is_row) l_is_row c_is_row k_is_row
  have F_may_take := fun_mk (st := s_may_take) l_may_take c_may_take k_may_take
  have F_with_moved := fun_mk (st := s_with_moved) l_with_moved c_with_moved k_with_moved
  have F_step_towards := fun_mk (st := s_step_towards) l_step_towards c_step_towards k_step_towards
  have F_where_they_meet := fun_mk (st := s_where_they_meet) l_where_they_meet c_where_they_meet k_where_they_meet
  have F_is_countable := fun_mk (st := s_is_countable) l_is_countable c_is_countable k_is_countable
  have F_entries_of := fun_mk (st := s_entries_of) l_entries_of c_entries_of k_entries_of
  have F_lines_with := fun_mk (st := s_lines_with) l_lines_with c_lines_with k_lines_with
  have F_ways_behind := fun_mk (st := s_ways_behind) l_ways_behind c_ways_behind k_ways_behind
  have F_count_tables := fun_mk (st := s_count_tables) l_count_tables c_count_tables k_count_tables
  have F_neediest := fun_mk (st := s_neediest) l_neediest c_neediest k_neediest
  have F_make_table := fun_mk (st := s_make_table) l_make_table c_make_table k_make_table
  have F_column_sum := fun_mk (st := s_column_sum) l_column_sum c_column_sum k_column_sum
  have F_has_sums := fun_mk (st := s_has_sums) l_has_sums c_has_sums k_has_sums
  have F_as_number := fun_mk (st := s_as_number) l_as_number c_as_number k_as_number
  have F_first_of := fun_mk (st := s_first_of) l_first_of c_first_of k_first_of
  have F_new_rows := fun_mk (st := s_new_rows) l_new_rows c_new_rows k_new_rows
  have F_end_of_call := fun_mk (st := s_end_of_call) l_end_of_call c_end_of_call k_end_of_call
  have F_answer_call := fun_mk (st := s_answer_call) l_answer_call c_answer_call k_answer_call
  have F_init := fun_mk (st := s_init) l_init c_init k_init
  have F_begin := fun_mk (st := s_begin) l_begin c_begin k_begin
  have F_put := fun_mk (st := s_put) l_put c_put k_put
  have F_tell_sorted := fun_mk (st := s_tell_sorted) l_tell_sorted c_tell_sorted k_tell_sorted
  have F_compare := fun_mk (st := s_compare) l_compare c_compare k_compare
  have F_move := fun_mk (st := s_move) l_move c_move k_move
  have F_take_step := fun_mk (st := s_take_step) l_take_step c_take_step k_take_step
  have F_meet := fun_mk (st := s_meet) l_meet c_meet k_meet
  have F_tell_count := fun_mk (st := s_tell_count) l_tell_count c_tell_count k_tell_count
  have F_tell_made := fun_mk (st := s_tell_made) l_tell_made c_tell_made k_tell_made
  have F_answers := fun_mk (st := s_answers) l_answers c_answers k_answers
  let ad : Ads := {
    C := C,
    lens := aL,
    cc := cc,
    tb := tb,
    greatest_first := ⟨f_greatest_first, PySem.W.fnOf "greatest_first" "greatest_first" (defArgs s_greatest_first) (defBody s_greatest_first) (defScope s_greatest_first) .none kV_greatest_first dc_greatest_first pm_greatest_first an_greatest_first cd_greatest_first ct_greatest_first⟩,
    are_comparable := ⟨f_are_comparable, PySem.W.fnOf "are_comparable" "are_comparable" (defArgs s_are_comparable) (defBody s_are_comparable) (defScope s_are_comparable) .none kV_are_comparable dc_are_comparable pm_are_comparable an_are_comparable cd_are_comparable ct_are_comparable⟩,
    is_over := ⟨f_is_over, PySem.W.fnOf "is_over" "is_over" (defArgs s_is_over) (defBody s_is_over) (defScope s_is_over) .none kV_is_over dc_is_over pm_is_over an_is_over cd_is_over ct_is_over⟩,
    is_row_number := ⟨f_is_row_number, PySem.W.fnOf "is_row_number" "is_row_number" (defArgs s_is_row_number) (defBody s_is_row_number) (defScope s_is_row_number) .none kV_is_row_number dc_is_row_number pm_is_row_number an_is_row_number cd_is_row_number ct_is_row_number⟩,
    are_row_numbers := ⟨f_are_row_numbers, PySem.W.fnOf "are_row_numbers" "are_row_numbers" (defArgs s_are_row_numbers) (defBody s_are_row_numbers) (defScope s_are_row_numbers) .none kV_are_row_numbers dc_are_row_numbers pm_are_row_numbers an_are_row_numbers cd_are_row_numbers ct_are_row_numbers⟩,
    is_place := ⟨f_is_place, PySem.W.fnOf "is_place" "is_place" (defArgs s_is_place) (defBody s_is_place) (defScope s_is_place) .none kV_is_place dc_is_place pm_is_place an_is_place cd_is_place ct_is_place⟩,
    is_row := ⟨f_is_row, PySem.W.fnOf "is_row" "is_row" (defArgs s_is_row) (defBody s_is_row) (defScope s_is_row) .none kV_is_row dc_is_row pm_is_row an_is_row cd_is_row ct_is_row⟩,
    may_take := ⟨f_may_take, PySem.W.fnOf "may_take" "may_take" (defArgs s_may_take) (defBody s_may_take) (defScope s_may_take) .none kV_may_take dc_may_take pm_may_take an_may_take cd_may_take ct_may_take⟩,
    with_moved := ⟨f_with_moved, PySem.W.fnOf "with_moved" "with_moved" (defArgs s_with_moved) (defBody s_with_moved) (defScope s_with_moved) .none kV_with_moved dc_with_moved pm_with_moved an_with_moved cd_with_moved ct_with_moved⟩,
    step_towards := ⟨f_step_towards, PySem.W.fnOf "step_towards" "step_towards" (defArgs s_step_towards) (defBody s_step_towards) (defScope s_step_towards) .none kV_step_towards dc_step_towards pm_step_towards an_step_towards cd_step_towards ct_step_towards⟩,
    where_they_meet := ⟨f_where_they_meet, PySem.W.fnOf "where_they_meet" "where_they_meet" (defArgs s_where_they_meet) (defBody s_where_they_meet) (defScope s_where_they_meet) .none kV_where_they_meet dc_where_they_meet pm_where_they_meet an_where_they_meet cd_where_they_meet ct_where_they_meet⟩,
    is_countable := ⟨f_is_countable, PySem.W.fnOf "is_countable" "is_countable" (defArgs s_is_countable) (defBody s_is_countable) (defScope s_is_countable) .none kV_is_countable dc_is_countable pm_is_countable an_is_countable cd_is_countable ct_is_countable⟩,
    entries_of := ⟨f_entries_of, PySem.W.fnOf "entries_of" "entries_of" (defArgs s_entries_of) (defBody s_entries_of) (defScope s_entries_of) .none kV_entries_of dc_entries_of pm_entries_of an_entries_of cd_entries_of ct_entries_of⟩,
    lines_with := ⟨f_lines_with, PySem.W.fnOf "lines_with" "lines_with" (defArgs s_lines_with) (defBody s_lines_with) (defScope s_lines_with) .none kV_lines_with dc_lines_with pm_lines_with an_lines_with cd_lines_with ct_lines_with⟩,
    ways_behind := ⟨f_ways_behind, PySem.W.fnOf "ways_behind" "ways_behind" (defArgs s_ways_behind) (defBody s_ways_behind) (defScope s_ways_behind) .none kV_ways_behind dc_ways_behind pm_ways_behind an_ways_behind cd_ways_behind ct_ways_behind⟩,
    count_tables := ⟨f_count_tables, PySem.W.fnOf "count_tables" "count_tables" (defArgs s_count_tables) (defBody s_count_tables) (defScope s_count_tables) .none kV_count_tables dc_count_tables pm_count_tables an_count_tables cd_count_tables ct_count_tables⟩,
    neediest := ⟨f_neediest, PySem.W.fnOf "neediest" "neediest" (defArgs s_neediest) (defBody s_neediest) (defScope s_neediest) .none kV_neediest dc_neediest pm_neediest an_neediest cd_neediest ct_neediest⟩,
    make_table := ⟨f_make_table, PySem.W.fnOf "make_table" "make_table" (defArgs s_make_table) (defBody s_make_table) (defScope s_make_table) .none kV_make_table dc_make_table pm_make_table an_make_table cd_make_table ct_make_table⟩,
    column_sum := ⟨f_column_sum, PySem.W.fnOf "column_sum" "column_sum" (defArgs s_column_sum) (defBody s_column_sum) (defScope s_column_sum) .none kV_column_sum dc_column_sum pm_column_sum an_column_sum cd_column_sum ct_column_sum⟩,
    has_sums := ⟨f_has_sums, PySem.W.fnOf "has_sums" "has_sums" (defArgs s_has_sums) (defBody s_has_sums) (defScope s_has_sums) .none kV_has_sums dc_has_sums pm_has_sums an_has_sums cd_has_sums ct_has_sums⟩,
    as_number := ⟨f_as_number, PySem.W.fnOf "as_number" "as_number" (defArgs s_as_number) (defBody s_as_number) (defScope s_as_number) .none kV_as_number dc_as_number pm_as_number an_as_number cd_as_number ct_as_number⟩,
    first_of := ⟨f_first_of, PySem.W.fnOf "first_of" "first_of" (defArgs s_first_of) (defBody s_first_of) (defScope s_first_of) .none kV_first_of dc_first_of pm_first_of an_first_of cd_first_of ct_first_of⟩,
    new_rows := ⟨f_new_rows, PySem.W.fnOf "new_rows" "new_rows" (defArgs s_new_rows) (defBody s_new_rows) (defScope s_new_rows) .none kV_new_rows dc_new_rows pm_new_rows an_new_rows cd_new_rows ct_new_rows⟩,
    end_of_call := ⟨f_end_of_call, PySem.W.fnOf "end_of_call" "end_of_call" (defArgs s_end_of_call) (defBody s_end_of_call) (defScope s_end_of_call) .none kV_end_of_call dc_end_of_call pm_end_of_call an_end_of_call cd_end_of_call ct_end_of_call⟩,
    answer_call := ⟨f_answer_call, PySem.W.fnOf "answer_call" "answer_call" (defArgs s_answer_call) (defBody s_answer_call) (defScope s_answer_call) .none kV_answer_call dc_answer_call pm_answer_call an_answer_call cd_answer_call ct_answer_call⟩,
    init := ⟨f_init, PySem.W.fnOf "__init__" "FourRows.__init__" (defArgs s_init) (defBody s_init) (defScope s_init) .none kV_init dc_init pm_init an_init cd_init ct_init⟩,
    begin := ⟨f_begin, PySem.W.fnOf "begin" "FourRows.begin" (defArgs s_begin) (defBody s_begin) (defScope s_begin) .none kV_begin dc_begin pm_begin an_begin cd_begin ct_begin⟩,
    put := ⟨f_put, PySem.W.fnOf "put" "FourRows.put" (defArgs s_put) (defBody s_put) (defScope s_put) .none kV_put dc_put pm_put an_put cd_put ct_put⟩,
    tell_sorted := ⟨f_tell_sorted, PySem.W.fnOf "tell_sorted" "FourRows.tell_sorted" (defArgs s_tell_sorted) (defBody s_tell_sorted) (defScope s_tell_sorted) .none kV_tell_sorted dc_tell_sorted pm_tell_sorted an_tell_sorted cd_tell_sorted ct_tell_sorted⟩,
    compare := ⟨f_compare, PySem.W.fnOf "compare" "FourRows.compare" (defArgs s_compare) (defBody s_compare) (defScope s_compare) .none kV_compare dc_compare pm_compare an_compare cd_compare ct_compare⟩,
    move := ⟨f_move, PySem.W.fnOf "move" "FourRows.move" (defArgs s_move) (defBody s_move) (defScope s_move) .none kV_move dc_move pm_move an_move cd_move ct_move⟩,
    take_step := ⟨f_take_step, PySem.W.fnOf "take_step" "FourRows.take_step" (defArgs s_take_step) (defBody s_take_step) (defScope s_take_step) .none kV_take_step dc_take_step pm_take_step an_take_step cd_take_step ct_take_step⟩,
    meet := ⟨f_meet, PySem.W.fnOf "meet" "FourRows.meet" (defArgs s_meet) (defBody s_meet) (defScope s_meet) .none kV_meet dc_meet pm_meet an_meet cd_meet ct_meet⟩,
    tell_count := ⟨f_tell_count, PySem.W.fnOf "tell_count" "FourRows.tell_count" (defArgs s_tell_count) (defBody s_tell_count) (defScope s_tell_count) .none kV_tell_count dc_tell_count pm_tell_count an_tell_count cd_tell_count ct_tell_count⟩,
    tell_made := ⟨f_tell_made, PySem.W.fnOf "tell_made" "FourRows.tell_made" (defArgs s_tell_made) (defBody s_tell_made) (defScope s_tell_made) .none kV_tell_made dc_tell_made pm_tell_made an_tell_made cd_tell_made ct_tell_made⟩ }
  have B_greatest_first := F_greatest_first.binds (ps := ["row"]) fun _ _ _ _ _ _ us hl => match us, hl with | [_], _ => rfl
  have B_are_comparable := F_are_comparable.binds (ps := ["first", "second"]) fun _ _ _ _ _ _ us hl => match us, hl with | [_, _], _ => rfl
  have B_is_over := F_is_over.binds (ps := ["first", "second"]) fun _ _ _ _ _ _ us hl => match us, hl with | [_, _], _ => rfl
  have B_is_row_number := F_is_row_number.binds (ps := ["i"]) fun _ _ _ _ _ _ us hl => match us, hl with | [_], _ => rfl
  have B_are_row_numbers := F_are_row_numbers.binds (ps := ["i", "j"]) fun _ _ _ _ _ _ us hl => match us, hl with | [_, _], _ => rfl
  have B_is_place := F_is_place.binds (ps := ["row", "p"]) fun _ _ _ _ _ _ us hl => match us, hl with | [_, _], _ => rfl
  have B_is_row := F_is_row.binds (ps := ["numbers"]) fun _ _ _ _ _ _ us hl => match us, hl with | [_], _ => rfl
  have B_may_take := F_may_take.binds (ps := ["row", "p", "q", "a"]) fun _ _ _ _ _ _ us hl => match us, hl with | [_, _, _, _], _ => rfl
  have B_with_moved := F_with_moved.binds (ps := ["row", "p", "q", "a"]) fun _ _ _ _ _ _ us hl => match us, hl with | [_, _, _, _], _ => rfl
  have B_step_towards := F_step_towards.binds (ps := ["x", "y"]) fun _ _ _ _ _ _ us hl => match us, hl with | [_, _], _ => rfl
  have B_where_they_meet := F_where_they_meet.binds (ps := ["first", "second"]) fun _ _ _ _ _ _ us hl => match us, hl with | [_, _], _ => rfl
  have B_is_countable := F_is_countable.binds (ps := ["row"]) fun _ _ _ _ _ _ us hl => match us, hl with | [_], _ => rfl
  have B_entries_of := F_entries_of.binds (ps := ["bits", "columns"]) fun _ _ _ _ _ _ us hl => match us, hl with | [_, _], _ => rfl
  have B_lines_with := F_lines_with.binds (ps := ["ones", "lines"]) fun _ _ _ _ _ _ us hl => match us, hl with | [_, _], _ => rfl
  have B_ways_behind := F_ways_behind.binds (ps := ["ways", "lines"]) fun _ _ _ _ _ _ us hl => match us, hl with | [_, _], _ => rfl
  have B_count_tables := F_count_tables.binds (ps := ["line_sums", "column_sums"]) fun _ _ _ _ _ _ us hl => match us, hl with | [_, _], _ => rfl
  have B_neediest := F_neediest.binds (ps := ["wants", "ones"]) fun _ _ _ _ _ _ us hl => match us, hl with | [_, _], _ => rfl
  have B_make_table := F_make_table.binds (ps := ["line_sums", "column_sums"]) fun _ _ _ _ _ _ us hl => match us, hl with | [_, _], _ => rfl
  have B_column_sum := F_column_sum.binds (ps := ["table", "c"]) fun _ _ _ _ _ _ us hl => match us, hl with | [_, _], _ => rfl
  have B_has_sums := F_has_sums.binds (ps := ["table", "line_sums", "column_sums"]) fun _ _ _ _ _ _ us hl => match us, hl with | [_, _, _], _ => rfl
  have B_as_number := F_as_number.binds (ps := ["entries"]) fun _ _ _ _ _ _ us hl => match us, hl with | [_], _ => rfl
  have B_first_of := F_first_of.binds (ps := ["told", "most"]) fun _ _ _ _ _ _ us hl => match us, hl with | [_, _], _ => rfl
  have B_new_rows := F_new_rows.binds (ps := []) fun _ _ _ _ _ _ us hl => match us, hl with | [], _ => rfl
  have B_end_of_call := F_end_of_call.binds (ps := ["calls", "start"]) fun _ _ _ _ _ _ us hl => match us, hl with | [_, _], _ => rfl
  have B_answer_call := F_answer_call.binds (ps := ["held", "call"]) fun _ _ _ _ _ _ us hl => match us, hl with | [_, _], _ => rfl
  have B_init := F_init.binds (ps := ["self"]) fun _ _ _ _ _ _ us hl => match us, hl with | [_], _ => rfl
  have B_begin := F_begin.binds (ps := ["self"]) fun _ _ _ _ _ _ us hl => match us, hl with | [_], _ => rfl
  have B_put := F_put.binds (ps := ["self", "i", "numbers"]) fun _ _ _ _ _ _ us hl => match us, hl with | [_, _, _], _ => rfl
  have B_tell_sorted := F_tell_sorted.binds (ps := ["self", "i", "most"]) fun _ _ _ _ _ _ us hl => match us, hl with | [_, _, _], _ => rfl
  have B_compare := F_compare.binds (ps := ["self", "i", "j"]) fun _ _ _ _ _ _ us hl => match us, hl with | [_, _, _], _ => rfl
  have B_move := F_move.binds (ps := ["self", "i", "p", "q", "a"]) fun _ _ _ _ _ _ us hl => match us, hl with | [_, _, _, _, _], _ => rfl
  have B_take_step := F_take_step.binds (ps := ["self", "i", "j"]) fun _ _ _ _ _ _ us hl => match us, hl with | [_, _, _], _ => rfl
  have B_meet := F_meet.binds (ps := ["self", "i", "j", "k"]) fun _ _ _ _ _ _ us hl => match us, hl with | [_, _, _, _], _ => rfl
  have B_tell_count := F_tell_count.binds (ps := ["self", "i", "j"]) fun _ _ _ _ _ _ us hl => match us, hl with | [_, _, _], _ => rfl
  have B_tell_made := F_tell_made.binds (ps := ["self", "i", "j", "most"]) fun _ _ _ _ _ _ us hl => match us, hl with | [_, _, _, _], _ => rfl
  have T : Txt K mg ad := {
    cl := ⟨pg, hd, po, sa⟩,
    nR := nR,
    mgC := PySem.W.mg_of X G aC,
    mkC := ⟨mk, a_init, i_init, kc⟩,
    gROWS := ⟨_, PySem.W.mg_of X G g_ROWS⟩,
    gLONGEST := ⟨_, PySem.W.mg_of X G g_LONGEST⟩,
    gGREATEST := ⟨_, PySem.W.mg_of X G g_GREATEST⟩,
    gLONGEST_COUNTED := ⟨_, PySem.W.mg_of X G g_LONGEST_COUNTED⟩,
    gGREATEST_COUNTED := ⟨_, PySem.W.mg_of X G g_GREATEST_COUNTED⟩,
    gBEGIN := ⟨_, PySem.W.mg_of X G g_BEGIN⟩,
    gROW := ⟨_, PySem.W.mg_of X G g_ROW⟩,
    gSORTED := ⟨_, PySem.W.mg_of X G g_SORTED⟩,
    gOVER := ⟨_, PySem.W.mg_of X G g_OVER⟩,
    gMOVE := ⟨_, PySem.W.mg_of X G g_MOVE⟩,
    gSTEP := ⟨_, PySem.W.mg_of X G g_STEP⟩,
    gMEET := ⟨_, PySem.W.mg_of X G g_MEET⟩,
    gCOUNT := ⟨_, PySem.W.mg_of X G g_COUNT⟩,
    gOUTSIDE := ⟨_, PySem.W.mg_of X G g_OUTSIDE⟩,
    gTOO_MUCH := ⟨_, PySem.W.mg_of X G g_TOO_MUCH⟩,
    gNO_MATCH := ⟨_, PySem.W.mg_of X G g_NO_MATCH⟩,
    rLENGTHS := PySem.W.mg_of X G g_LENGTHS,
    kLENGTHS := ⟨es, nL, l_LENGTHS, d_LENGTHS.1, d_LENGTHS.2⟩,
    len := PySem.W.mg_none_of X G b_len,
    sum := PySem.W.mg_none_of X G b_sum,
    max := PySem.W.mg_none_of X G b_max,
    min := PySem.W.mg_none_of X G b_min,
    sorted := PySem.W.mg_none_of X G b_sorted,
    list := PySem.W.mg_none_of X G b_list,
    range := PySem.W.mg_none_of X G b_range,
    zip := PySem.W.mg_none_of X G b_zip,
    tuple := PySem.W.mg_none_of X G b_tuple,
    enumerate := PySem.W.mg_none_of X G b_enumerate,
    greatest_first := ⟨F_greatest_first, PySem.W.mg_of X G a_greatest_first, k_greatest_first, B_greatest_first⟩,
    are_comparable := ⟨F_are_comparable, PySem.W.mg_of X G a_are_comparable, k_are_comparable, B_are_comparable⟩,
    is_over := ⟨F_is_over, PySem.W.mg_of X G a_is_over, k_is_over, B_is_over⟩,
    is_row_number := ⟨F_is_row_number, PySem.W.mg_of X G a_is_row_number, k_is_row_number, B_is_row_number⟩,
    are_row_numbers := ⟨F_are_row_numbers, PySem.W.mg_of X G a_are_row_numbers, k_are_row_numbers, B_are_row_numbers⟩,
    is_place := ⟨F_is_place, PySem.W.mg_of X G a_is_place, k_is_place, B_is_place⟩,
    is_row := ⟨F_is_row, PySem.W.mg_of X G a_is_row, k_is_row, B_is_row⟩,
    may_take := ⟨F_may_take, PySem.W.mg_of X G a_may_take, k_may_take, B_may_take⟩,
    with_moved := ⟨F_with_moved, PySem.W.mg_of X G a_with_moved, k_with_moved, B_with_moved⟩,
    step_towards := ⟨F_step_towards, PySem.W.mg_of X G a_step_towards, k_step_towards, B_step_towards⟩,
    where_they_meet := ⟨F_where_they_meet, PySem.W.mg_of X G a_where_they_meet, k_where_they_meet, B_where_they_meet⟩,
    is_countable := ⟨F_is_countable, PySem.W.mg_of X G a_is_countable, k_is_countable, B_is_countable⟩,
    entries_of := ⟨F_entries_of, PySem.W.mg_of X G a_entries_of, k_entries_of, B_entries_of⟩,
    lines_with := ⟨F_lines_with, PySem.W.mg_of X G a_lines_with, k_lines_with, B_lines_with⟩,
    ways_behind := ⟨F_ways_behind, PySem.W.mg_of X G a_ways_behind, k_ways_behind, B_ways_behind⟩,
    count_tables := ⟨F_count_tables, PySem.W.mg_of X G a_count_tables, k_count_tables, B_count_tables⟩,
    neediest := ⟨F_neediest, PySem.W.mg_of X G a_neediest, k_neediest, B_neediest⟩,
    make_table := ⟨F_make_table, PySem.W.mg_of X G a_make_table, k_make_table, B_make_table⟩,
    column_sum := ⟨F_column_sum, PySem.W.mg_of X G a_column_sum, k_column_sum, B_column_sum⟩,
    has_sums := ⟨F_has_sums, PySem.W.mg_of X G a_has_sums, k_has_sums, B_has_sums⟩,
    as_number := ⟨F_as_number, PySem.W.mg_of X G a_as_number, k_as_number, B_as_number⟩,
    first_of := ⟨F_first_of, PySem.W.mg_of X G a_first_of, k_first_of, B_first_of⟩,
    new_rows := ⟨F_new_rows, PySem.W.mg_of X G a_new_rows, k_new_rows, B_new_rows⟩,
    end_of_call := ⟨F_end_of_call, PySem.W.mg_of X G a_end_of_call, k_end_of_call, B_end_of_call⟩,
    answer_call := ⟨F_answer_call, PySem.W.mg_of X G a_answer_call, k_answer_call, B_answer_call⟩,
    init := ⟨F_init, ⟨a_init, i_init, k_init⟩, B_init⟩,
    begin := ⟨F_begin, ⟨a_begin, i_begin, k_begin⟩, B_begin⟩,
    put := ⟨F_put, ⟨a_put, i_put, k_put⟩, B_put⟩,
    tell_sorted := ⟨F_tell_sorted, ⟨a_tell_sorted, i_tell_sorted, k_tell_sorted⟩, B_tell_sorted⟩,
    compare := ⟨F_compare, ⟨a_compare, i_compare, k_compare⟩, B_compare⟩,
    move := ⟨F_move, ⟨a_move, i_move, k_move⟩, B_move⟩,
    take_step := ⟨F_take_step, ⟨a_take_step, i_take_step, k_take_step⟩, B_take_step⟩,
    meet := ⟨F_meet, ⟨a_meet, i_meet, k_meet⟩, B_meet⟩,
    tell_count := ⟨F_tell_count, ⟨a_tell_count, i_tell_count, k_tell_count⟩, B_tell_count⟩,
    tell_made := ⟨F_tell_made, ⟨a_tell_made, i_tell_made, k_tell_made⟩, B_tell_made⟩,
    code := h_code }
  exact ⟨PySem.W.fnOf "answers" "answers" (defArgs s_answers) (defBody s_answers) (defScope s_answers) .none kV_answers dc_answers pm_answers an_answers cd_answers ct_answers, fun s us hu => match us, hu with | [_], _ => .of_eq rfl, fun base _ _ NB => ok_answers F_answers T NB⟩
theorem tabIn_of {K : PySem.W.Frag} {x : Str} {f c P : Addr} {oc oc' : Value} {od od' : Option Addr} {sl sl' : Array (Option Value)} {fd : FuncData} {vs : Array Value} (h1 : PySem.W.nsIn K mainGlobals x = some (some (.ref f)))
    (h2 : K.lookup f = some ⟨oc, od, .func fd, sl⟩) (h3 : fd.code = .ref c) (h4 : K.lookup c = some ⟨oc', od', .fields vs, sl'⟩) (h5 : vs[11]? = some (.ref P)) : PySem.W.tabIn K x = some (c, P) := by
  unfold PySem.W.tabIn
  rw [h1]
  dsimp only
  rw [h2]
  dsimp only
  rw [h3]
  dsimp only
  rw [h4]
  dsimp only
  rw [h5]
theorem walk_specKT {r : PySem.W.OpenSpec} {k : Nat} {q : Program} {loose : List Str} {XP : (Str → Option Value) → Heap → Prop} {YP : World → Heap → Prop} {d : DefRec} {K : Params → PySem.W.Frag} {CX : CXT} {ps : List Str} {sp : PySem.W.Frag → Sp} {cc tb : Addr} {tp : Pos × Str} {tx : Str} {tr : DefRec}
    (hwell : r.wellSaid = true) (hdf : d.params.defaults = []) (hlen : r.args.length = ps.length) (hr : Room k callerA) (htr : (recsOf q).find? (fun e => e.name == tx) = some tr) (hti : ∀ w : World, PySem.W.tabIn (K w.params) tx = some (cc, tb)) (htk : ∀ w : World, (K w.params).lookup tb = none)
    (hY : ∀ (w : World) (h : Heap), YP w h → (K w.params).In h)
    (F : ∀ (w : World) (mg : Str → Option Value) (fa : Addr) (h : Heap), YP w h → (K w.params).In h → h.Ns mainGlobals mg → mg d.name = some (.ref fa) →
      ∃ fd : FuncData, (∀ (s : Shared) (us : List Value), us.length = ps.length → BindsTo s fd ⟨us, []⟩ (ps.zip us)) ∧
        ∀ base : Heap, (K w.params).In base → base.Ns mainGlobals mg → NeedB mg base cc tb → FnOk r.prog w (K w.params) mg base CX k fa fd ps (sp (K w.params)))
    (hsp : ∀ (K : PySem.W.Frag) (H : Hp) (xs : List V) (a : PySem.W.Codec.denoteAll r.args), H tb = some (.tbl tp) → PySem.W.Codec.withinAll r.args a = true → PySem.W.Codec.app r.args r.asked a = true → DwAll K H xs (PySem.W.Codec.encAll r.args a) →
      sp K xs H (fun v H' => Dw K H' v (r.ret.enc (PySem.W.Codec.app r.args r.f a))) fun _ _ _ => False)
    (hCX : ∀ (H : Hp) (s : Shared) (e : Value) (s' : Shared), CX [] H s (fun _ _ _ => False) e s' → False) :
    PySem.W.WalkOS q loose XP YP r d [] (fun f vs => PySem.call f vs) :=
  walk_specT (K := K) (CX := fun _ => CX) (sp := fun w => sp (K w.params)) hwell hdf hlen hr htr hti htk hY F (fun w H xs a h1 h2 h3 h4 => hsp (K w.params) H xs a h1 h2 h3 h4) fun _ H s e s' => hCX H s e s'
end Ev
open PySem PySem.W PyProof.Rows
set_option maxRecDepth 100000 in
set_option maxHeartbeats 0 in
theorem PySem.Challenge.cw_evenrowsdesk_s01_answers_holds : PySem.Challenge.rw_evenrowsdesk_s01_answers.Holds := by
  w_on; k_headS; (case hw => exact ⟨[.list []], by decide +kernel, by decide +kernel⟩)
  k_fillS
  refine' Ev.walk_specKT (r := PySem.Challenge.rw_evenrowsdesk_s01_answers) (k := 7) (CX := L2.CX0) (ps := ["calls"]) (cc := ?cc) (tb := ?tb) (tp := Ev.tpN) (tx := "neediest") (sp := fun K => Ev.sp_answers K ?tb) (by decide +kernel) rfl rfl ⟨rfl, by decide, by decide⟩ rfl ?ti ?tk (fun w h Y => PySem.W.kIn_of Y) ?F ?S (fun _ _ _ _ z => z)
  case ti =>
    intro w
    refine' Ev.tabIn_of ?a ?l ?c ?l2 ?v
    (case a => k_is)
    (case l => k_is)
    (case c => exact rfl)
    (case l2 => k_is)
    (case v => exact rfl)
  case tk =>
    intro w
    kernel_rfl
  case F =>
    intro w mg fa h Y KX G hmg
    refine' Ev.all_mk KX G hmg ?aC ?g_ROWS ?g_LONGEST ?g_GREATEST ?g_LONGEST_COUNTED ?g_GREATEST_COUNTED ?g_BEGIN ?g_ROW ?g_SORTED ?g_OVER ?g_MOVE ?g_STEP ?g_MEET ?g_COUNT ?g_OUTSIDE ?g_TOO_MUCH ?g_NO_MATCH ?b_len ?b_sum ?b_max ?b_min ?b_sorted ?b_list ?b_range ?b_zip ?b_tuple ?b_enumerate ?g_LENGTHS ?l_LENGTHS ?a_greatest_first ?l_greatest_first ?c_greatest_first ?k_greatest_first ?a_are_comparable ?l_are_comparable ?c_are_comparable ?k_are_comparable ?a_is_over ?l_is_over ?c_is_over ?k_is_over ?a_is_row_number ?l_is_row_number ?c_is_row_number ?k_is_row_number ?a_are_row_numbers ?l_are_row_numbers ?c_are_row_numbers ?k_are_row_numbers ?a_is_place ?l_is_place ?c_is_place ?k_is_place ?a_is_row ?l_is_row ?c_is_row ?k_is_row ?a_may_take ?l_may_take ?c_may_take ?k_may_take ?a_with_moved ?l_with_moved ?c_with_moved ?k_with_moved ?a_step_towards ?l_step_towards ?c_step_towards ?k_step_towards ?a_where_they_meet ?l_where_they_meet ?c_where_they_meet ?k_where_they_meet ?a_is_countable ?l_is_countable ?c_is_countable ?k_is_countable ?a_entries_of ?l_entries_of ?c_entries_of ?k_entries_of ?a_lines_with ?l_lines_with ?c_lines_with ?k_lines_with ?a_ways_behind ?l_ways_behind ?c_ways_behind ?k_ways_behind ?a_count_tables ?l_count_tables ?c_count_tables ?k_count_tables ?a_neediest ?l_neediest ?c_neediest ?k_neediest ?a_make_table ?l_make_table ?c_make_table ?k_make_table ?a_column_sum ?l_column_sum ?c_column_sum ?k_column_sum ?a_has_sums ?l_has_sums ?c_has_sums ?k_has_sums ?a_as_number ?l_as_number ?c_as_number ?k_as_number ?a_first_of ?l_first_of ?c_first_of ?k_first_of ?a_new_rows ?l_new_rows ?c_new_rows ?k_new_rows ?a_end_of_call ?l_end_of_call ?c_end_of_call ?k_end_of_call ?a_answer_call ?l_answer_call ?c_answer_call ?k_answer_call ?a_answers ?l_answers ?c_answers ?k_answers ?a_init ?i_init ?l_init ?c_init ?k_init ?a_begin ?i_begin ?l_begin ?c_begin ?k_begin ?a_put ?i_put ?l_put ?c_put ?k_put ?a_tell_sorted ?i_tell_sorted ?l_tell_sorted ?c_tell_sorted ?k_tell_sorted ?a_compare ?i_compare ?l_compare ?c_compare ?k_compare ?a_move ?i_move ?l_move ?c_move ?k_move ?a_take_step ?i_take_step ?l_take_step ?c_take_step ?k_take_step ?a_meet ?i_meet ?l_meet ?c_meet ?k_meet ?a_tell_count ?i_tell_count ?l_tell_count ?c_tell_count ?k_tell_count ?a_tell_made ?i_tell_made ?l_tell_made ?c_tell_made ?k_tell_made ?pg ?hd ?po ?sa ?mk ?kc ?nR ?d_LENGTHS ?h_code
    (case aC => k_is)
    (case g_ROWS => k_is)
    (case g_LONGEST => k_is)
    (case g_GREATEST => k_is)
    (case g_LONGEST_COUNTED => k_is)
    (case g_GREATEST_COUNTED => k_is)
    (case g_BEGIN => k_is)
    (case g_ROW => k_is)
    (case g_SORTED => k_is)
    (case g_OVER => k_is)
    (case g_MOVE => k_is)
    (case g_STEP => k_is)
    (case g_MEET => k_is)
    (case g_COUNT => k_is)
    (case g_OUTSIDE => k_is)
    (case g_TOO_MUCH => k_is)
    (case g_NO_MATCH => k_is)
    (case b_len => k_is)
    (case b_sum => k_is)
    (case b_max => k_is)
    (case b_min => k_is)
    (case b_sorted => k_is)
    (case b_list => k_is)
    (case b_range => k_is)
    (case b_zip => k_is)
    (case b_tuple => k_is)
    (case b_enumerate => k_is)
    (case g_LENGTHS => k_is)
    (case l_LENGTHS => k_is)
    (case a_greatest_first => k_is)
    (case l_greatest_first => k_is)
    (case c_greatest_first => k_is)
    (case k_greatest_first => k_is)
    (case a_are_comparable => k_is)
    (case l_are_comparable => k_is)
    (case c_are_comparable => k_is)
    (case k_are_comparable => k_is)
    (case a_is_over => k_is)
    (case l_is_over => k_is)
    (case c_is_over => k_is)
    (case k_is_over => k_is)
    (case a_is_row_number => k_is)
    (case l_is_row_number => k_is)
    (case c_is_row_number => k_is)
    (case k_is_row_number => k_is)
    (case a_are_row_numbers => k_is)
    (case l_are_row_numbers => k_is)
    (case c_are_row_numbers => k_is)
    (case k_are_row_numbers => k_is)
    (case a_is_place => k_is)
    (case l_is_place => k_is)
    (case c_is_place => k_is)
    (case k_is_place => k_is)
    (case a_is_row => k_is)
    (case l_is_row => k_is)
    (case c_is_row => k_is)
    (case k_is_row => k_is)
    (case a_may_take => k_is)
    (case l_may_take => k_is)
    (case c_may_take => k_is)
    (case k_may_take => k_is)
    (case a_with_moved => k_is)
    (case l_with_moved => k_is)
    (case c_with_moved => k_is)
    (case k_with_moved => k_is)
    (case a_step_towards => k_is)
    (case l_step_towards => k_is)
    (case c_step_towards => k_is)
    (case k_step_towards => k_is)
    (case a_where_they_meet => k_is)
    (case l_where_they_meet => k_is)
    (case c_where_they_meet => k_is)
    (case k_where_they_meet => k_is)
    (case a_is_countable => k_is)
    (case l_is_countable => k_is)
    (case c_is_countable => k_is)
    (case k_is_countable => k_is)
    (case a_entries_of => k_is)
    (case l_entries_of => k_is)
    (case c_entries_of => k_is)
    (case k_entries_of => k_is)
    (case a_lines_with => k_is)
    (case l_lines_with => k_is)
    (case c_lines_with => k_is)
    (case k_lines_with => k_is)
    (case a_ways_behind => k_is)
    (case l_ways_behind => k_is)
    (case c_ways_behind => k_is)
    (case k_ways_behind => k_is)
    (case a_count_tables => k_is)
    (case l_count_tables => k_is)
    (case c_count_tables => k_is)
    (case k_count_tables => k_is)
    (case a_neediest => k_is)
    (case l_neediest => k_is)
    (case c_neediest => k_is)
    (case k_neediest => k_is)
    (case a_make_table => k_is)
    (case l_make_table => k_is)
    (case c_make_table => k_is)
    (case k_make_table => k_is)
    (case a_column_sum => k_is)
    (case l_column_sum => k_is)
    (case c_column_sum => k_is)
    (case k_column_sum => k_is)
    (case a_has_sums => k_is)
    (case l_has_sums => k_is)
    (case c_has_sums => k_is)
    (case k_has_sums => k_is)
    (case a_as_number => k_is)
    (case l_as_number => k_is)
    (case c_as_number => k_is)
    (case k_as_number => k_is)
    (case a_first_of => k_is)
    (case l_first_of => k_is)
    (case c_first_of => k_is)
    (case k_first_of => k_is)
    (case a_new_rows => k_is)
    (case l_new_rows => k_is)
    (case c_new_rows => k_is)
    (case k_new_rows => k_is)
    (case a_end_of_call => k_is)
    (case l_end_of_call => k_is)
    (case c_end_of_call => k_is)
    (case k_end_of_call => k_is)
    (case a_answer_call => k_is)
    (case l_answer_call => k_is)
    (case c_answer_call => k_is)
    (case k_answer_call => k_is)
    (case a_answers => k_is)
    (case l_answers => k_is)
    (case c_answers => k_is)
    (case k_answers => k_is)
    (case a_init => k_is)
    (case i_init => k_is)
    (case l_init => k_is)
    (case c_init => k_is)
    (case k_init => k_is)
    (case a_begin => k_is)
    (case i_begin => k_is)
    (case l_begin => k_is)
    (case c_begin => k_is)
    (case k_begin => k_is)
    (case a_put => k_is)
    (case i_put => k_is)
    (case l_put => k_is)
    (case c_put => k_is)
    (case k_put => k_is)
    (case a_tell_sorted => k_is)
    (case i_tell_sorted => k_is)
    (case l_tell_sorted => k_is)
    (case c_tell_sorted => k_is)
    (case k_tell_sorted => k_is)
    (case a_compare => k_is)
    (case i_compare => k_is)
    (case l_compare => k_is)
    (case c_compare => k_is)
    (case k_compare => k_is)
    (case a_move => k_is)
    (case i_move => k_is)
    (case l_move => k_is)
    (case c_move => k_is)
    (case k_move => k_is)
    (case a_take_step => k_is)
    (case i_take_step => k_is)
    (case l_take_step => k_is)
    (case c_take_step => k_is)
    (case k_take_step => k_is)
    (case a_meet => k_is)
    (case i_meet => k_is)
    (case l_meet => k_is)
    (case c_meet => k_is)
    (case k_meet => k_is)
    (case a_tell_count => k_is)
    (case i_tell_count => k_is)
    (case l_tell_count => k_is)
    (case c_tell_count => k_is)
    (case k_tell_count => k_is)
    (case a_tell_made => k_is)
    (case i_tell_made => k_is)
    (case l_tell_made => k_is)
    (case c_tell_made => k_is)
    (case k_tell_made => k_is)
    (case pg => k_is)
    (case hd => k_is)
    (case po => k_is)
    (case sa => k_is)
    (case mk => k_is)
    (case kc => k_is)
    (case nR => k_is)
    (case d_LENGTHS => exact Ev.dok ..)
    (case h_code => exact rfl)
  case S =>
    intro K H xs a hT hwi hask hx
    cases hx with
    | cons h1 h2 =>
      cases h2
      cases h1 with
      | lst hs ha =>
        have e := L2.ints_dw a.1 _ ha
        subst e
        exact Ev.request hT hask hs
end
