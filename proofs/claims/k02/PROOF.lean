import PyProof.Rows.All
import Wide.All
import OpenK.AllK
import Wide.FinOn
import PyProof.ReprRoads
import HandS.ForMost
import HandS.Flow
import HandS.Wide
import HandS.IsInst
import HandS.Strs
import HandS.SetFor
import HandS.TupAny
import HandS.Rev
import HandS.NoneIn
import HandS.Style
import HandS.SortInts
import HandS.More
import PySem.Challenge.RW_ropewarren_k02_places_taken_or_not
set_option Elab.async false
set_option linter.all false
set_option maxRecDepth 100000
set_option maxHeartbeats 4000000
namespace Rw
open PySem PySem.Spec PyProof.Rows L2
/-! heaps of which all but a few addresses stay -/
def Keep (av : List Addr) (H H' : Hp) : Prop := ∀ b o, H b = some o → b ∉ av → H' b = some o
theorem Keep.refl (av : List Addr) (H : Hp) : Keep av H H := fun _ _ e _ => e
theorem Keep.trans {av : List Addr} {H H1 H2 : Hp} (x : Keep av H H1) (y : Keep av H1 H2) : Keep av H H2 := fun b o e n => y b o (x b o e n) n
theorem Keep.new {av : List Addr} {H : Hp} {p : Addr} {o : HO} (n : H p = none) : Keep av H (upd H p o) := fun b z e _ => by
  rw [upd_ne (ne_of_none e n)]; exact e
theorem Keep.put {av : List Addr} {H : Hp} {p : Addr} {o : HO} (n : p ∈ av) : Keep av H (upd H p o) := fun b z e nb => by
  rw [upd_ne (show b ≠ p from fun q => nb (by rw [q]; exact n))]; exact e
theorem Keep.mono {av av' : List Addr} {H H' : Hp} (x : Keep av H H') (s : ∀ a ∈ av, a ∈ av') : Keep av' H H' := fun b o e n => x b o e fun q => n (s b q)
/-! a fresh address may be left out of what is left out -/
theorem Keep.drop {av : List Addr} {H H' : Hp} {p : Addr} (n : H p = none) (x : Keep (p :: av) H H') : Keep av H H' := fun b o e nb => x b o e fun q => by
  rcases List.mem_cons.mp q with q | q
  · exact ne_of_none e n q
  · exact nb q
/-! data: what stands at a value, without the addresses av -/
mutual
inductive Dt (av : List Addr) (H : Hp) : V → PyData → Prop
  | non : Dt av H .non .none
  | bl (b : Bool) : Dt av H (.bl b) (.bool b)
  | int (i : Int) : Dt av H (.int i) (.int i)
  | str (x : Str) : Dt av H (.str x) (.str x)
  | lst {a : Addr} {xs : List V} {ds : List PyData} : a ∉ av → a ≠ sysModules → H a = some (.lst xs) → Dts av H xs ds → Dt av H (.ref a) (.list ds)
  | tup {a : Addr} {xs : List V} {ds : List PyData} : a ∉ av → H a = some (.tup xs) → Dts av H xs ds → Dt av H (.ref a) (.tuple ds)
  | dct {a : Addr} : a ∉ av → H a = some (.dK []) → Dt av H (.ref a) (.dict [])
inductive Dts (av : List Addr) (H : Hp) : List V → List PyData → Prop
  | nil : Dts av H [] []
  | cons {v : V} {vs : List V} {d : PyData} {ds : List PyData} : Dt av H v d → Dts av H vs ds → Dts av H (v :: vs) (d :: ds)
end
mutual
theorem Dt.map {av av' : List Addr} {H H' : Hp} (f : ∀ b o, H b = some o → b ∉ av → H' b = some o ∧ b ∉ av') : ∀ (d : PyData) (v : V), Dt av H v d → Dt av' H' v d
  | _, _, .non => .non
  | _, _, .bl b => .bl b
  | _, _, .int i => .int i
  | _, _, .str x => .str x
  | .list ds, _, .lst n m e s => .lst (f _ _ e n).2 m (f _ _ e n).1 (Dts.map f ds _ s)
  | .tuple ds, _, .tup n e s => .tup (f _ _ e n).2 (f _ _ e n).1 (Dts.map f ds _ s)
  | _, _, .dct n e => .dct (f _ _ e n).2 (f _ _ e n).1
theorem Dts.map {av av' : List Addr} {H H' : Hp} (f : ∀ b o, H b = some o → b ∉ av → H' b = some o ∧ b ∉ av') : ∀ (ds : List PyData) (vs : List V), Dts av H vs ds → Dts av' H' vs ds
  | _, _, .nil => .nil
  | d :: ds, _, .cons h t => .cons (Dt.map f d _ h) (Dts.map f ds _ t)
end
theorem Dt.keep {av : List Addr} {H H' : Hp} {v : V} {d : PyData} (x : Dt av H v d) (k : Keep av H H') : Dt av H' v d := Dt.map (fun b o e n => ⟨k b o e n, n⟩) d v x
theorem Dts.keep {av : List Addr} {H H' : Hp} {v : List V} {d : List PyData} (x : Dts av H v d) (k : Keep av H H') : Dts av H' v d := Dts.map (fun b o e n => ⟨k b o e n, n⟩) d v x
theorem Dt.more {av : List Addr} {H : Hp} {v : V} {d : PyData} {p : Addr} (x : Dt av H v d) (n : H p = none) : Dt (p :: av) H v d :=
  Dt.map (fun b o e nb => ⟨e, fun q => (List.mem_cons.mp q).elim (ne_of_none e n) nb⟩) d v x
theorem Dts.more {av : List Addr} {H : Hp} {v : List V} {d : List PyData} {p : Addr} (x : Dts av H v d) (n : H p = none) : Dts (p :: av) H v d :=
  Dts.map (fun b o e nb => ⟨e, fun q => (List.mem_cons.mp q).elim (ne_of_none e n) nb⟩) d v x
theorem Dt.less {av av' : List Addr} {H : Hp} {v : V} {d : PyData} (x : Dt av H v d) (s : ∀ a ∈ av', a ∈ av) : Dt av' H v d :=
  Dt.map (fun b o e nb => ⟨e, fun q => nb (s b q)⟩) d v x
theorem Dts.less {av av' : List Addr} {H : Hp} {v : List V} {d : List PyData} (x : Dts av H v d) (s : ∀ a ∈ av', a ∈ av) : Dts av' H v d :=
  Dts.map (fun b o e nb => ⟨e, fun q => nb (s b q)⟩) d v x
theorem Dts.len {av : List Addr} {H : Hp} : ∀ {vs : List V} {ds : List PyData}, Dts av H vs ds → vs.length = ds.length
  | _, _, .nil => rfl
  | _, _, .cons _ t => by rw [List.length_cons, List.length_cons, t.len]
theorem Dts.get {av : List Addr} {H : Hp} : ∀ {vs : List V} {ds : List PyData} (i : Nat) {d : PyData}, Dts av H vs ds → ds[i]? = some d → ∃ v, vs[i]? = some v ∧ Dt av H v d
  | _, _, _, _, .nil, e => by simp at e
  | _, _, 0, _, .cons h _, e => by simp at e; subst e; exact ⟨_, rfl, h⟩
  | _, _, i + 1, d, .cons _ t, e => by
    obtain ⟨u, h1, h2⟩ := Dts.get (i := i) (d := d) t (by simpa using e)
    exact ⟨u, by simpa using h1, h2⟩
theorem Dts.getv {av : List Addr} {H : Hp} : ∀ {vs : List V} {ds : List PyData} (i : Nat) {v : V}, Dts av H vs ds → vs[i]? = some v → ∃ d, ds[i]? = some d ∧ Dt av H v d
  | _, _, _, _, .nil, e => by simp at e
  | _, _, 0, _, .cons h _, e => by simp at e; subst e; exact ⟨_, rfl, h⟩
  | _, _, i + 1, d, .cons _ t, e => by
    obtain ⟨u, h1, h2⟩ := Dts.getv (i := i) (v := d) t (by simpa using e)
    exact ⟨u, by simpa using h1, h2⟩
theorem Dts.app {av : List Addr} {H : Hp} : ∀ {vs us : List V} {ds es : List PyData}, Dts av H vs ds → Dts av H us es → Dts av H (vs ++ us) (ds ++ es)
  | _, _, _, _, .nil, y => y
  | _, _, _, _, .cons h t, y => .cons h (Dts.app t y)
theorem Dts.mem {av : List Addr} {H : Hp} : ∀ {vs : List V} {ds : List PyData} {v : V}, Dts av H vs ds → v ∈ vs → ∃ d ∈ ds, Dt av H v d
  | _, _, _, .nil, e => by simp at e
  | _, _, v, .cons (d := d) h t, e => by
    rcases List.mem_cons.mp e with e | e
    · subst e; exact ⟨d, List.mem_cons_self, h⟩
    · obtain ⟨d', m, x⟩ := Dts.mem t e
      exact ⟨d', List.mem_cons_of_mem _ m, x⟩
theorem Dts.take {av : List Addr} {H : Hp} : ∀ {vs : List V} {ds : List PyData} (n : Nat), Dts av H vs ds → Dts av H (vs.take n) (ds.take n)
  | _, _, 0, _ => .nil
  | _, _, _ + 1, .nil => .nil
  | _, _, n + 1, .cons r t => .cons r (Dts.take n t)
theorem Dts.drop {av : List Addr} {H : Hp} : ∀ {vs : List V} {ds : List PyData} (n : Nat), Dts av H vs ds → Dts av H (vs.drop n) (ds.drop n)
  | _, _, 0, r => r
  | _, _, _ + 1, .nil => .nil
  | _, _, n + 1, .cons _ t => Dts.drop n t
theorem Dts.rev {av : List Addr} {H : Hp} : ∀ {vs : List V} {ds : List PyData}, Dts av H vs ds → Dts av H vs.reverse ds.reverse
  | _, _, .nil => .nil
  | _, _, .cons r t => by rw [List.reverse_cons, List.reverse_cons]; exact Dts.app t.rev (.cons r .nil)
theorem Dts.ints {av : List Addr} {H : Hp} : ∀ ns : List Int, Dts av H (ns.map V.int) (ns.map PyData.int)
  | [] => .nil
  | n :: ns => .cons (.int n) (Dts.ints ns)
end Rw

namespace Rw
open PySem PySem.Spec PyProof.Rows L2
/-! ### repr of data -/
section
variable {X : Cx} {pins : List (Addr × Obj)} {σ : L2.St} {H : Hp} {s : Shared} {av : List Addr}
mutual
theorem Dt.told (I : Inv X pins σ H s) : ∀ (d : PyData) (v : V) (u : Value), Dt av H v d → RelV v u → ∃ as, Reads s.heap u d as ∧ sysModules ∉ as
  | .none, _, _, h, r => by
    cases h; cases r; exact ⟨_, .none, by simp⟩
  | .bool b, _, _, h, r => by
    cases h; cases r; exact ⟨_, .bool b, by simp⟩
  | .int i, _, _, h, r => by
    cases h; obtain ⟨t, rfl⟩ := r; exact ⟨_, .int i t, by simp⟩
  | .str x, _, _, h, r => by
    cases h; obtain ⟨t, rfl⟩ := r; exact ⟨_, .str x t, by simp⟩
  | .list ds, _, _, h, r => by
    cases h with
    | lst na ms e da =>
      cases r
      obtain ⟨its, rv, ⟨o, n, ho, hc, _, hd⟩, _⟩ := I.list (SqL.of e)
      obtain ⟨as, hr, hn⟩ := Dts.told I ds _ its da rv
      exact ⟨_, .list ho hc hd hr, fun q => (List.mem_cons.mp q).elim (Ne.symm ms) hn⟩
  | .tuple ds, _, _, h, r => by
    cases h with
    | tup na e da =>
      cases r
      obtain ⟨its, rv, ⟨o, ho, hc, n, hd⟩, _⟩ := I.tuple (SqT.of e)
      obtain ⟨as, hr, hn⟩ := Dts.told I ds _ its da rv
      exact ⟨_, .tuple ho hc hd hr, hn⟩
  | .dict kvs, _, _, h, r => by
    cases h with
    | dct na e =>
      cases r
      obtain ⟨_, nsm, vs, kv, o, es, ep, ho, ex, hd, _, pr, _⟩ := I.hok _ _ e
      cases kv
      have e0 : es.toList = [] := by
        cases hq : es.toList with
        | nil => rfl
        | cons y ys => rw [hq] at pr; cases pr
      refine ⟨_, .dict (kvs := []) ho ex.1 hd (as := []) (bs := []) ?_ ?_, ?_⟩
      · rw [e0]; exact .nil
      · rw [e0]; exact .nil
      · intro q
        simp only [List.append_nil, List.mem_cons, List.not_mem_nil, or_false] at q
        rw [← q] at nsm
        exact absurd nsm (by decide)
theorem Dts.told (I : Inv X pins σ H s) : ∀ (ds : List PyData) (vs : List V) (us : List Value), Dts av H vs ds → Vals vs us → ∃ as, ReadsAll s.heap us ds as ∧ sysModules ∉ as
  | [], _, _, h, r => by
    cases h; cases r; exact ⟨_, .nil, by simp⟩
  | d :: ds, _, _, h, r => by
    cases h with
    | cons h1 h2 =>
      cases r with
      | cons r1 r2 =>
        obtain ⟨as, q1, n1⟩ := Dt.told I d _ _ h1 r1
        obtain ⟨bs, q2, n2⟩ := Dts.told I ds _ _ h2 r2
        exact ⟨_, .cons q1 q2, fun q => (List.mem_append.mp q).elim n1 n2⟩
end
end
section
variable {X : Cx}
def rRepr : List V → Hp → VK → Prop := fun xs H Q => ∃ (a : Addr) (d : PyData) (av : List Addr), xs = [.ref a] ∧ Dt av H (.ref a) d ∧ d.showable = true ∧ d.depth ≤ 64 ∧ d.shown.length ≤ sizeLine ∧ Q (.str d.shown) H
theorem call_reprD (hg : X.A.guards = some []) (hu : X.A.units + 70 < cLine) : CallR X (.builtin "repr") rRepr := by
  intro pins s σ H xs us Q I r h
  obtain ⟨a, d, av, rfl, hd, hs, hdp, hz, q⟩ := h
  obtain ⟨u, rfl, ru⟩ := vals1 r
  obtain ⟨as, rd, na⟩ := Dt.told I d _ _ hd ru
  cases ru
  exact repr_of_reads' rd hs (fun _ => na) hg (by omega) (fun _ _ e => e) (fun h' t tk k => ⟨.str d.shown, H, I.kept (t' := tk) k, ⟨t, rfl⟩, q⟩) hz
/-! new lists stand elsewhere than the modules' table -/
def tLstN (t : TA) : TE := fun σ H Q => t σ H fun xs H1 => xs.length ≤ sizeLine ∧ ∀ p, H1 p = none → p ≠ sysModules → Q (.ref p) (upd H1 p (.lst xs))
theorem pe_lstN {es : List Expr} {t : TA} {pos : Pos} (h : PA X es t) : PE X (.List es pos) (tLstN t) :=
  ⟨fun pins s σ H Q I hq => wpAny_List_spliced (thn (h.run pos pins s σ H _ I hq) fun us s1 ⟨xs, H1, I1, r, z, q⟩ => ⟨by rw [← r.length]; exact z,
    ⟨.ref s1.heap.objs.size, _, I1.laid (t' := s1.toks) (fun b u e => Heap.get?_push_of_some _ e) (Nat.le_refl _) (show ObjOk X.prog X.w _ _ _ (.lst xs) from ⟨z, us, 0, r, Heap.get?_push_size _ rfl⟩), rfl, q _ (I1.hok.fresh (Nat.le_refl _)) (Nat.ne_of_gt I1.big)⟩⟩)⟩
def rListN (K : PySem.W.Frag) : List V → Hp → VK → Prop := fun xs H Q => ∃ p ys, xs = [.ref p] ∧ SqT K H p ys ∧ ∀ l, H l = none → l ≠ sysModules → Q (.ref l) (upd H l (.lst ys))
theorem call_listN : CallR X (.type "list") (rListN X.K) := by
  intro pins s σ H xs us Q I r h
  obtain ⟨p, ys, rfl, hq, q⟩ := h
  rw [Vals.ref1 r]
  obtain ⟨its, r', ⟨o, ho, hc, n, hd⟩, hz⟩ := I.tuple hq
  have ln := r'.length
  exact call_list_seq p (.inr rfl) ho hc hd (fun h' c' kp e => ⟨.ref s.heap.objs.size, _, I.laid (t' := s.toks) kp (Nat.le_refl _) (show ObjOk X.prog X.w _ h' _ (.lst ys) from ⟨hz, its, c', r', e⟩), rfl, q _ (I.hok.fresh (Nat.le_refl _)) (Nat.ne_of_gt I.big)⟩) (by simp only [List.size_toArray] <;> omega)
end
end Rw

namespace Rw
open PySem PySem.Spec PyProof.Rows L2
/-! ### t[::-1] of a tuple -/
theorem back_adj (n : Nat) : Builtin.Slice.sliceAdjust none none (-1) (n : Int) = ((n : Int) - 1, -1) := by
  unfold Builtin.Slice.sliceAdjust
  have h1 : ((-1 : Int) < 0) := by omega
  simp only [h1, if_true]
theorem back_places (n : Nat) : Builtin.Slice.slicePlaces ((n : Int) - 1) (-1) (-1) = n := by
  unfold Builtin.Slice.slicePlaces
  have h1 : ¬ ((-1 : Int) > 0) := by omega
  simp only [h1, if_false]
  have e : ((n : Int) - 1 - -1 - 1) / - -1 = (n : Int) - 1 := by
    rw [show (- -1 : Int) = 1 by decide, Int.ediv_one]; omega
  rw [e]
  split <;> omega
theorem back_pick (xs : Array Value) : ((List.range xs.size).filterMap fun (m : Nat) => xs[((xs.size : Int) - 1 + (m : Int) * (-1)).toNat]?).toArray = xs.toList.reverse.toArray := by
  congr 1
  obtain ⟨l⟩ := xs
  simp only [List.size_toArray, List.getElem?_toArray]
  apply List.ext_getElem?
  intro i
  have key : ∀ k : Nat, k ≤ l.length → ((List.range k).filterMap fun (m : Nat) => l[((l.length : Int) - 1 + (m : Int) * (-1)).toNat]?) = l.reverse.take k := by
    intro k
    induction k with
    | zero => intro _; simp
    | succ k ih =>
      intro hk
      rw [List.range_succ, List.filterMap_append, ih (by omega), List.take_add_one]
      congr 1
      have e : ((l.length : Int) - 1 + (k : Int) * (-1)).toNat = l.length - 1 - k := by omega
      rw [List.filterMap_cons, e, List.getElem?_reverse (by omega)]
      rw [List.getElem?_eq_getElem (show l.length - 1 - k < l.length by omega)]
      rfl
  rw [key l.length (Nat.le_refl _), List.take_of_length_le (by rw [List.length_reverse]; exact Nat.le_refl _)]
section
variable {prog : Program} {w : World} {A : Around} {E : Value → Shared → Prop} {s : Shared}
theorem back_applied {sl : Addr} {tk : Tok} {n : Nat} {Q : Int × Int × Nat → Shared → Prop} (hs : s.heap.IsSliceOf sl .none .none (.int (-1) tk))
    (h : Q ((n : Int) - 1, -1, n) s) : wpAny (model prog w) A (Builtin.Slice.sliceApplied (.ref sl) (pure (n : Int))) Q E s := by
  obtain ⟨ob, e1, e2, e3⟩ := id hs
  unfold Builtin.Slice.sliceApplied Builtin.Slice.sliceFields
  refine wpAny_bind (wpAny_bind (wpAny_field e1 e3 (x := .none) rfl (wpAny_bind (wpAny_field e1 e3 (x := .none) rfl (wpAny_bind (wpAny_field e1 e3 (x := .int (-1) tk) rfl (wpAny_pure ?_)))))))
  refine wpAny_bind (slicePart_int ?_)
  show wpAny _ _ (if ((-1 : Int) == 0) = true then _ else _) _ _ s
  rw [if_neg (show ¬ ((-1 : Int) == 0) = true by decide)]
  refine wpAny_bind (slicePart_none (wpAny_bind (slicePart_none (wpAny_bind (wpAny_pure ?_)))))
  show wpAny _ _ (match Builtin.Slice.sliceAdjust none none (-1) (n : Int) with | (lo, hi) => pure (lo, (-1 : Int), Builtin.Slice.slicePlaces lo hi (-1))) _ _ s
  rw [back_adj n]
  show wpAny _ _ (pure ((n : Int) - 1, (-1 : Int), Builtin.Slice.slicePlaces ((n : Int) - 1) (-1) (-1))) _ _ s
  rw [back_places]
  exact wpAny_pure h
theorem back_item {t sl : Addr} {items : Array Value} {tk : Tok} {Q : Value → Shared → Prop} (ht : IsTup s.heap t items) (hs : s.heap.IsSliceOf sl .none .none (.int (-1) tk))
    (h : Q (.ref s.heap.objs.size) { s with heap := s.heap.push { cls := .type "tuple", data := .seq items.toList.reverse.toArray } })
    (hz : items.size ≤ sizeLine) : wpAny (model prog w) A (getItem (.ref t) (.ref sl)) Q E s := by
  have ok : sizeOk (.seq items.toList.reverse.toArray) := by
    show items.toList.reverse.toArray.size ≤ sizeLine
    rw [List.size_toArray, List.length_reverse, Array.length_toList]; exact hz
  obtain ⟨ob, e1, e2, e3⟩ := id hs
  have isl : s.TypeIs (.ref sl) "slice" := ⟨ob, e1, e2⟩
  unfold getItem
  (try with_reducible refine wpAny_holding ?_)
  (first | refine wpAny_bind (wpAny_pure ?_) | skip)
  refine wpAny_bind (wpAny_sequenceKey (ht.typeIs) (by decide) ?_)
  refine wpAny_bind (wpAny_callSpecial?_slot (name := Str.ofString "__getitem__") ht.typeIs PyProof.Rows.slot_tuple_getitem (wpAny_call_entry PyProof.Rows.slot_tuple_getitem ht.typeIs entry_tuple_getitem ?_ (args_tuple_getitem _ _)))
  show wpAny _ _ (Builtin.Tuple.tupleItemsOf (Value.ref t) >>= _) _ _ s
  refine wpAny_bind (tupleItemsOf_ ht (wpAny_bind (wpAny_typeOf isl ?_)))
  rw [if_pos (show _ = true by decide)]
  refine wpAny_bind (back_applied hs ?_)
  have no : ¬ ((((items.size : Int) - 1) == 0 && (-1 : Int) == 1 && items.size == items.size) = true) := by
    intro q
    rw [Bool.and_eq_true, Bool.and_eq_true] at q
    exact absurd (eq_of_beq q.1.2) (by decide)
  show wpAny _ _ (if (((items.size : Int) - 1) == 0 && (-1 : Int) == 1 && items.size == items.size) = true then _ else _) _ _ s
  rw [if_neg no, back_pick]
  first
    | exact wpAny_bind (m := Builtin.Tuple.tupleExact _) (wpAny_newObj_type (wpAny_pure ⟨_, rfl, wpAny_pure h⟩) ok)
    | exact wpAny_bind (m := Builtin.Tuple.tupleExact _) (wpAny_newObj_type (wpAny_bind (wpAny_pure (wpAny_pure ⟨_, rfl, wpAny_pure h⟩))) ok)
    | exact wpAny_bind (wpAny_bind (m := Builtin.Tuple.tupleExact _) (wpAny_newObj_type (wpAny_pure (wpAny_pure ⟨_, rfl, wpAny_pure h⟩)) ok))
    | exact wpAny_bind (wpAny_bind (m := Builtin.Tuple.tupleExact _) (wpAny_newObj_type (wpAny_pure ⟨_, rfl, wpAny_pure h⟩) ok))
end
section
variable {X : Cx}
def tBack (K : PySem.W.Frag) (te : TE) : TE := fun σ H Q => te σ H fun x H1 => ∃ a xs, x = .ref a ∧ SqT K H1 a xs ∧ ∀ p, H1 p = none → Q (.ref p) (upd H1 p (.tup xs.reverse))
theorem pe_back {e : Expr} {te : TE} {k : Nat} {p1 p2 p3 pos : Pos} (he : PE X e te) : PE X (.Subscript e (.Slice none none (some (.UnaryOp .USub (.Constant (.int 1) k p1) p2)) p3) pos) (tBack X.K te) := by
  refine ⟨fun pins s σ H Q I h => Subscript_ (thn (he.run pins s σ H _ I h) fun v s1 ⟨x, H1, I1, r1, a, xs, ex, hx, q⟩ => ?_)⟩
  subst ex
  cases r1
  have st : PO X (some (.UnaryOp .USub (.Constant (.int 1) k p1) p2)) (tPart (tUn (rU fun i => .int (-i)) (tC (.int 1)))) := po_some (pe_un un_neg pe_int)
  refine wpAny_Slice (thn (po_none.run pins s1 σ H1 (fun o G => o = none ∧ G = H1) I1 ⟨rfl, rfl⟩) fun vl s2 ⟨l, H2, I2, pl, el, e2⟩ => ?_)
  subst el e2
  refine thn (po_none.run pins s2 σ H2 (fun o G => o = none ∧ G = H2) I2 ⟨rfl, rfl⟩) fun vu s3 ⟨u, H3, I3, pu, eu, e3⟩ => ?_
  subst eu e3
  refine thn (st.run pins s3 σ H3 (fun o G => o = some (-1) ∧ G = H3) I3 ⟨1, rfl, -1, rfl, rfl, rfl⟩) fun vs s4 ⟨o, H4, I4, ps, eo, e4⟩ => ?_
  subst eo e4
  have I5 : Inv X pins σ H4 { s4 with heap := s4.heap.push { cls := .type "slice", data := .fields #[vl, vu, vs] } } := I4.kept (t' := s4.toks) (fun b ob z => Heap.get?_push_of_some _ z)
  obtain ⟨its, r, ht, hz⟩ := I5.tuple hx
  have ln := r.length
  cases pl
  cases pu
  obtain ⟨tk, rfl⟩ : ∃ tk, vs = Value.int (-1) tk := by
    cases ps; exact ⟨_, rfl⟩
  show wpAny (model X.prog X.w) X.A (subscriptTail e (.Slice none none (some (.UnaryOp .USub (.Constant (.int 1) k p1) p2)) p3) (.ref a) (.ref s4.heap.objs.size)) (EP X pins σ Q) X.xe { s4 with heap := s4.heap.push { cls := .type "slice", data := .fields #[.none, .none, .int (-1) tk] } }
  refine tail_any (ops := [.ref a, .ref s4.heap.objs.size]) ht.typeIs PyProof.Rows.slot_tuple_getitem.lookup ?_ (by with_unfolding_all rfl)
  refine back_item ht (Heap.IsSliceOf.new _ _ _ _) ?_ (by rw [List.size_toArray]; omega)
  refine ⟨.ref _, _, I5.laid (t' := s4.toks) (o := .tup xs.reverse) (fun b ob z => Heap.get?_push_of_some _ z) (Nat.le_refl _) ?_, rfl, q _ (I5.hok.fresh (Nat.le_refl _))⟩
  exact ⟨by rw [List.length_reverse]; exact hz, its.reverse, r.reverse, ⟨_, Heap.get?_push_size _ rfl, rfl, _, rfl⟩⟩
end
end Rw

namespace Rw
open PySem PySem.Spec PyProof.Rows L2
/-! ### set(xs) of a list of hin, its order left open -/
abbrev set0 (w : World) : Obj := { cls := .type "set", dict := none, data := .set #[] 0 (.fresh 0 0 (!w.params.followText "set-order")) }
section
variable {P : Program} {w : World} {A : Around} {E : Value → Shared → Prop} {s : Shared}
theorem set_of_list {l : Addr} {its : Array Value} (ns : List Int) {Q : Value → Shared → Prop} (calm : A.handled = none) (hl : s.heap.IsList l its) (hin : IntsAre its.toList ns) (few : ns.length + 1 < scanBound)
    (h : ∀ (h' : Heap) (tk c : Nat), SetR w h' s.heap.objs.size (fun j => decide (j ∈ ns)) c → c ≤ ns.length → (∀ b o, s.heap.get? b = some o → h'.get? b = some o) → Q (.ref s.heap.objs.size) { s with heap := h', toks := tk }) :
    wpAny (model P w) A (call (.type "set") [.ref l]) Q E s := by
  have isz : its.size = ns.length := (Array.length_toList (xs := its)).symm.trans (IntsAre.length hin)
  obtain ⟨c, tl, m1⟩ := F.called_set.mro
  have m2 := F.called_set.made
  have m3 := F.called_set.sub
  refine wpAny_call (codeAny_of_tree (show wpAny _ _ (callAny (.type "set") _) _ _ _ from ?_))
  refine wpAny_pure ⟨Code.quiet_builtin _ (by decide +kernel), codeAny_builtin (F.entry_type_call) ?_⟩
  rw [Around.under_plain (weight_type_call_type "set" [Value.ref l] []) rfl]
  have m4 := F.called_set.notType
  have m5 := F.called_set.canCreate
  have m6 := F.typeCall_set_1 (Value.ref l)
  repeat any_goals (first | assumption | wp_step)
  refine codeAny_mono (code_set_led1 (Value.ref l) (E := E) (Q₁ := fun ob s1 => ob = .ref s.heap.objs.size ∧ s1 = { s with heap := s.heap.push (set0 w) }) ⟨rfl, rfl⟩) fun r s1 hr => ?_
  cases r with
  | error e => exact hr
  | ok fl =>
    cases fl with
    | ret ob =>
      obtain ⟨rfl, rfl⟩ := hr
      have at0 : (s.heap.push (set0 w)).get? s.heap.objs.size = some (set0 w) := Heap.get?_push_size _ rfl
      have ty : Shared.TypeIs { s with heap := s.heap.push (set0 w) } (.ref s.heap.objs.size) "set" := ⟨_, at0, rfl⟩
      have m7 := F.called_set.init.lookup
      have m8 := F.called_set.init.bind (Value.ref s.heap.objs.size)
      repeat any_goals (first | assumption | wp_step)
      refine codeAny_mono (codeAny_call_builtin (R := wants (fun r s2 => r = .none ∧ ∃ h' tk c, s2 = { s with heap := h', toks := tk } ∧ SetR w h' s.heap.objs.size (fun j => decide (j ∈ ns)) c ∧ c ≤ ns.length ∧ (∀ b o, s.heap.get? b = some o → h'.get? b = some o)) E)
        F.called_set.init.plain F.entry_set_init (check_set_init_1 ty ?_)) fun r2 s2 hr2 => ?_
      · obtain ⟨⟨oc, od, odata, osl⟩, e0, e1, nl, e2⟩ := hl
        simp only at e1 e2
        subst e1; subst e2
        have e3 : (s.heap.push (set0 w)).get? l = some { cls := .type "list", dict := od, data := .seq its nl, slots := osl } := Heap.get?_push_of_some _ e0
        have n1 := F.sub_list_set
        have n2 := F.sub_list_frozenset
        have n3 : (Value.type "list" == Value.type "dict") = false := by decide
        have hl1 : (s.heap.push (set0 w)).IsList l its := ⟨_, e3, rfl, nl, rfl⟩
        unfold Builtin.«set.__init__» noKeywords Builtin.Frozenset.updateFrom
        generalize gi : pyIter = PI
        wp_walk
        subst gi
        refine wpAny_pyIter_list hl1 (wpAny_bind (wpAny_runValue ?_))
        have lt0 : l < s.heap.objs.size := Heap.lt_size e0
        have calm3 : A.in1.in1.in1.handled = none := by simp [calm]
        have ne1 : l ≠ (s.heap.push (set0 w)).objs.size := by
          rw [Heap.size_push]; exact Nat.ne_of_lt (Nat.lt_succ_of_lt lt0)
        have ne2 : s.heap.objs.size ∉ [(s.heap.push (set0 w)).objs.size, l] := by
          rw [Heap.size_push]
          intro q
          simp only [List.mem_cons, List.not_mem_nil, or_false] at q
          exact q.elim (Nat.ne_of_lt (Nat.lt_succ_self _)) (Nat.ne_of_gt lt0)
        have val : ∀ (i : Nat) (v : Value), its[i]? = some v → ∃ k t, ns[i]? = some k ∧ v = .int k t := fun i v hv => by
          have hi : i < ns.length := by rw [← isz]; exact (Array.getElem?_eq_some_iff.mp hv).1
          obtain ⟨t, e⟩ := PyProof.Rows.IntsAre.int_at hin i v (by rw [Array.getElem?_toList]; exact hv)
          refine ⟨ns[i], t, List.getElem?_eq_getElem hi, e.trans ?_⟩
          rw [List.getD_eq_getElem?_getD, List.getElem?_eq_getElem hi]; rfl
        refine set_update_ints ((Walks.list calm3 _ l ne1 its).toS) s.heap.objs.size ne2 ns isz few val (its.size - 0) 0 _ (by omega) (Nat.zero_le _) ⟨⟨_, Heap.get?_push_size _ rfl, rfl, rfl⟩, (hl1.push _)⟩ ?start ?fin
        case start => exact ⟨0, Nat.le_refl 0, setR_new_at (Heap.get?_push_of_some _ at0)⟩
        case fin =>
          intro s3 c3 mv le3 R3
          obtain ⟨h3, g3, d3, t3, o3⟩ := s3
          obtain rfl : g3 = s.gens := mv.gens
          obtain rfl : d3 = s.drawn := mv.drawn
          obtain rfl : o3 = s.os := mv.os
          show wpAny _ _ _ _ _ _
          refine wpAny_pure (show wpAny _ _ (ret Value.none) _ _ _ from ?_)
          rw [isz] at le3
          refine wpAny_pure ⟨rfl, h3, t3, c3, rfl, R3, le3, fun b o e => ?_⟩
          have lb : b < s.heap.objs.size := Heap.lt_size e
          refine mv.heap b o (fun q => ?_) (Heap.get?_push_of_some _ (Heap.get?_push_of_some _ e))
          rw [Heap.size_push] at q
          simp only [List.mem_cons, List.not_mem_nil, or_false] at q
          exact q.elim (Nat.ne_of_lt lb) (Nat.ne_of_lt (Nat.lt_succ_of_lt lb))
      · cases r2 with
        | error e => exact hr2
        | ok f2 =>
          cases f2 with
          | ret r =>
            obtain ⟨rfl, h', tk, c3, rfl, R3, le3, k3⟩ := hr2
            repeat any_goals (first | assumption | wp_step)
            exact h _ _ _ R3 le3 k3
          | _ => exact hr2.elim
    | _ => exact hr.elim
end
section
variable {X : Cx}
def rSetL (K : PySem.W.Frag) (w : World) : List V → Hp → VK → Prop := fun xs H Q => ∃ (p : Addr) (ns : List Int), xs = [.ref p] ∧ SqL K H p (ns.map V.int) ∧ ns.length ≤ 1000 ∧
  ∀ (a : Addr) (c : Nat), H a = none → c ≤ ns.length → Q (.ref a) (upd H a (SetO w a (fun j => decide (j ∈ ns)) c))
theorem cr_setL (hc : X.calm = true) : CallR X (.type "set") (rSetL X.K X.w) := by
  intro pins s σ H xs us Q I r h
  obtain ⟨p, ns, rfl, hS, few, q⟩ := h
  rw [Vals.ref1 r]
  obtain ⟨its, rv, pl, hz⟩ := I.list hS
  refine set_of_list ns (I.ok.hd hc) pl.isList (by simpa using intsAre_of rv) (by unfold scanBound; omega) fun h' tk c R le k => ?_
  exact ⟨.ref _, _, I.laid (t' := tk) k (Nat.le_refl _) (setO_new R), rfl, q _ c (I.hok.fresh (Nat.le_refl _)) le⟩
end
end Rw

namespace Rw
open PySem PySem.Spec PyProof.Rows L2
/-! ### the law's own def, called where nothing is being shown (callerA), over a base that is known -/
def AtTop (P : Program) (w : World) (K : PySem.W.Frag) (mg : Str → Option Value) (base : Heap) (f : Addr) (fd : FuncData) (x : Str) (sp : Sp) : Prop :=
  ∀ (s : Shared) (H : Hp) (u : Value) (v : V) (Q : VK), Env0 P w K mg base callerA [] s H → BindsTo s fd ⟨[u], []⟩ [(x, u)] → RelV v u → sp [v] H Q E0 →
    codeAny (model P w) callerA (.call (.ref f) ⟨[u], []⟩) (CR CX0 [] P w H s Q E0) s
section
variable {P : Program} {w : World} {K : PySem.W.Frag} {mg : Str → Option Value} {base : Heap}
theorem atTop_of {f : Addr} {x q y : Str} {st : Stmt} {fd : FuncData} {N : List Str} {k : Nat} {sp : Sp} (F : Fun K x q st f fd) (S : FnScope N [y] (defScope st)) (room : Room (k + 1) callerA)
    (body : ∀ (cdv : Value) (s : Shared) (H : Hp) (v : V) (Q : VK), Room k (callerA.deeper (envOfC q (defScope st) s.heap.objs.size f cdv)) → sp [v] H Q E0 →
      ∃ t, PSs (cxOf CX0 P w K mg base N q (defScope st) f cdv callerA [] s H E0) (defBody st) t ∧ t { nx := fun _ H' => Q .non H', rt := Q } (start N [v]) H) : AtTop P w K mg base f fd y sp := by
  obtain ⟨oc, od, kV, doc, pm, an, cdv, ct, osl, rfl, lk, hcd⟩ := F.ex
  intro s H u v Q e0 hb r hsp
  have KX : K.In s.heap := e0.mod.kin.keeps (fun b o e => (e0.bs b o e).1)
  have lim : s.heap.NoLimit := e0.mod.nolimit.keeps (fun b o e => (e0.bs b o e).1)
  have kinds : ∀ z ∈ [y].zip [u], (defScope st).names.lookup z.1 = some .local ∨ ((defScope st).names.lookup z.1 = some .cell ∧ ((cellsFrom (s.heap.objs.size + 1) (defScope st).names []).lookup z.1).isSome = true) := fun ⟨n, v⟩ hz => by
    rcases S.par n (List.of_mem_zip hz).1 with g | g
    · exact Or.inl g
    · exact Or.inr ⟨g, PySem.W.cellsFrom_some _ _ _ (.inl g)⟩
  refine codeAny_call_function room.depth (KX _ _ lk) rfl S.co S.gen rfl (PySem.W.codeRec_of KX hcd) (hb _ _ _ _ (wpAny_newFunctionEnv_cells S.kind kinds fun env he s1 ic => ?_))
  subst he
  refine ⟨lim.keeps ic.toInCall.keep, codeAny_func ?_⟩
  obtain ⟨t, ht, hq⟩ := body cdv s H v Q (room.deeper _) hsp
  have I : Inv (cxOf CX0 P w K mg base N q (defScope st) f cdv callerA [] s H E0) [] (start N [v]) H s1 := inv_start S room.hd e0 rfl (.cons r .nil) ic
  refine wpAny_mono (ht.run [] s1 (start N [v]) H _ I hq) (fun fl s2 hs => ?_) fun e s2 hs => hs
  cases fl with
  | ret u2 =>
    obtain ⟨v2, σ2, H2, J, rv, z⟩ := hs
    exact ⟨v2, H2, J.os, J.bare, J.base, J.hok, rv, z⟩
  | next =>
    obtain ⟨σ2, H2, J, z⟩ := hs
    exact ⟨V.non, H2, J.os, J.bare, J.base, J.hok, rfl, z⟩
  | brk =>
    obtain ⟨_, _, _, z⟩ := hs
    exact False.elim z
  | cont =>
    obtain ⟨_, _, _, z⟩ := hs
    exact False.elim z
theorem law_at {mb : Str → Option Value} {fa a : Addr} {fd : FuncData} {x : Str} {sp : Sp} {s1 : Shared} {vs : List Value} {ns : List Int}
    (KX : K.In s1.heap) (hns : s1.heap.Ns mainGlobals mg) (hb : s1.heap.Ns builtinsNs mb) (hbb : ∀ x : Str, x ≠ "__name__" → mb x = bootBuiltins x) (lim : s1.heap.NoLimit) (hg : s1.gens = #[])
    (ha : s1.heap.get? a = some { cls := .type "list", data := .seq vs.toArray }) (hi : IntsAre vs ns) (hl : ns.length ≤ sizeLine)
    (F : ∀ base : Heap, K.In base → base.Ns mainGlobals mg → AtTop P w K mg base fa fd x sp) (hbind : ∀ (s : Shared) (u : Value), BindsTo s fd ⟨[u], []⟩ [(x, u)])
    (hsp : ∀ H : Hp, Only H → SqL K H a (ns.map V.int) → sp [.ref a] H (fun v _ => v = .bl true) E0) :
    codeAny (model P w) callerA (.call (.ref fa) ⟨[.ref a], []⟩) (fun r s' => r = .ok (.ret (.bool true)) ∧ OldK s1.heap s'.heap ∧ s'.os = s1.os ∧ AllBare s'.gens) s1 := by
  have core : ∀ H : Hp, Only H → SqL K H a (ns.map V.int) → HOk P w H s1.heap → (∀ b, H b ≠ none → b = a) → (H a ≠ none → K.lookup a = none) →
      codeAny (model P w) callerA (.call (.ref fa) ⟨[.ref a], []⟩) (fun r s' => r = .ok (.ret (.bool true)) ∧ OldK s1.heap s'.heap ∧ s'.os = s1.os ∧ AllBare s'.gens) s1 := by
    intro H hO hS hok hA hK
    have hid : ∀ {b : Addr} {o : Obj}, s1.heap.get? b = some o → H b = none → (hidT s1.heap H).get? b = some o := fun e n => hidT_get e n
    have only : ∀ {b : Addr} {u : HO}, H b = some u → b = a := fun {b u} z => hA b (by rw [z]; exact Option.some_ne_none _)
    have dict_no : ∀ {b : Addr} {o : Obj} {es : Array DictEntry} {ep : Nat}, s1.heap.get? b = some o → o.data = .dict es ep → H b = none := fun {b o es ep} e d => by
      cases z : H b with
      | none => rfl
      | some u =>
        have e' := only z
        subst e'
        rw [ha] at e; cases e
        exact nomatch (show Data.seq vs.toArray _ = Data.dict es ep from d)
    have ns_of : ∀ {b : Addr} {m : Str → Option Value}, s1.heap.Ns b m → (hidT s1.heap H).Ns b m := fun {b m} ⟨o, es, ep, e, d, r⟩ => ⟨o, es, ep, hid e (dict_no e d), d, r⟩
    have kb : K.In (hidT s1.heap H) := fun b o e => hid (KX b o e) (by
      cases z : H b with
      | none => rfl
      | some u =>
        have e' := only z
        subst e'
        rw [hK (by rw [z]; exact Option.some_ne_none _)] at e; cases e)
    have md : Mod K mg (hidT s1.heap H) := ⟨kb, ns_of hns, ⟨mb, ns_of hb, hbb⟩, let ⟨mc, h1, h2⟩ := lim; ⟨mc, ns_of h1, h2⟩⟩
    have e0 : Env0 P w K mg (hidT s1.heap H) callerA [] s1 H := ⟨rfl, md, fun b o e => of_hidT e, Nat.le_of_eq (hidT_size _ _), trivial, fun b z => absurd (show b ∈ ([] : List Addr) from z) List.not_mem_nil, hok, .of_eq hg⟩
    refine codeAny_mono (F _ kb (ns_of hns) s1 H (.ref a) (.ref a) _ e0 (hbind s1 (.ref a)) rfl (hsp H hO hS)) fun r s2 h => ?_
    cases r with
    | error e => exact False.elim h
    | ok fl =>
      cases fl with
      | next => exact False.elim h
      | brk => exact False.elim h
      | cont => exact False.elim h
      | ret u =>
        obtain ⟨v, H2, os, bare, un, hok2, r2, z⟩ := h
        obtain rfl : v = .bl true := z
        obtain rfl : u = Value.bool true := r2
        refine ⟨rfl, OldK.of_keep (fun b o e => ?_), os, bare⟩
        rcases hO b with z | ⟨ob, xs, z⟩
        · exact un.keep b o e z (fun y => absurd (show b ∈ ([] : List Addr) from y) List.not_mem_nil) List.not_mem_nil
        · obtain ⟨e1, _⟩ := hok b _ z
          obtain ⟨e2, _⟩ := hok2 b _ (un.frzs b ob _ z)
          rw [e] at e1; cases e1
          exact e2
  have rv := vals_ints hi
  have ln := hi.length
  cases hk : K.lookup a with
  | some o =>
    have e := KX a o hk
    rw [ha] at e
    cases e
    exact core (fun _ => none) (fun _ => .inl rfl) (.inr ⟨_, vs.toArray, _, hk, rfl, rfl, rfl, by rw [List.size_toArray, ln]; exact hl, by simpa using rv⟩) (fun b u z => nomatch (show (none : Option HO) = some u from z)) (fun b z => absurd rfl z) (fun z => absurd rfl z)
  | none =>
    refine core (upd (fun _ => none) a (.frz { cls := .type "list", data := .seq vs.toArray } (.lst (ns.map V.int)))) (fun b => ?_) (.inl (.inr ⟨{ cls := .type "list", data := .seq vs.toArray }, upd_same⟩)) (fun b u z => ?_) (fun b z => ?_) (fun _ => hk)
    · by_cases e : b = a
      · rw [e]; exact .inr ⟨_, _, upd_same⟩
      · exact .inl (upd_ne e)
    · by_cases e : b = a
      · subst e
        rw [upd_same] at z
        cases z
        exact ⟨ha, by rw [List.length_map]; exact hl, vs, _, rv, ha⟩
      · rw [upd_ne e] at z
        cases z
    · by_cases e : b = a
      · exact e
      · exact absurd (upd_ne e) z
end
/-! what k_head leaves, from the law's promise -/
theorem walk_top {l : PySem.W.OpenLaw} {n : Nat} {q : Program} {loose : List Str} {XP : (Str → Option Value) → Heap → Prop} {YP : World → Heap → Prop} {d : DefRec} {K : Params → PySem.W.Frag} {sp : World → Sp} {x : Str}
    (hn : l.most = some n) (hn2 : n ≤ sizeLine) (hdf : d.params.defaults = []) (hY : ∀ (w : World) (h : Heap), YP w h → (K w.params).In h)
    (F : ∀ (w : World) (mg : Str → Option Value) (fa : Addr) (h : Heap), (K w.params).In h → h.Ns mainGlobals mg → mg d.name = some (.ref fa) →
      ∃ fd : FuncData, (∀ (s : Shared) (u : Value), BindsTo s fd ⟨[u], []⟩ [(x, u)]) ∧ ∀ base : Heap, (K w.params).In base → base.Ns mainGlobals mg → AtTop l.prog w (K w.params) mg base fa fd x (sp w))
    (hsp : ∀ (w : World) (H : Hp) (a : Addr) (ns : List Int), ns.length ≤ n → Only H → SqL (K w.params) H a (ns.map V.int) → sp w [.ref a] H (fun v _ => v = .bl true) E0) :
    PySem.W.WalkO q loose XP YP l.row.toRowW d [] (fun f vs => PySem.call f vs) := by
  refine Att.attach_call hn hdf (fun w s0 s1 mg mb fa o pm cd doc a vs ns G Y ho hd hcd hmg hobj hin hlen hg => ?_)
  have KX := hY w _ Y
  obtain ⟨fd, hb, hF⟩ := F w mg fa _ KX G.T.g hmg
  exact law_at KX G.T.g G.T.b G.T.builtins G.T.nolimit hg hobj hin (Nat.le_trans hlen hn2) hF hb (fun H hO hS => hsp w H a ns hlen hO hS)
end Rw

namespace Rw
open PySem PySem.Spec PyProof.Rows L2
/-! ### the text -/
def topS (i : Nat) : Stmt := PySem.Challenge.pw_ropewarren_k02_places_taken_or_not.main.body.getD i (.Pass ⟨0, 0, 0, 0⟩)
/-! ### what stands at the top: a def that keeps a promise, built-ins that are still theirs -/
def Can (P : Program) (w : World) (K : PySem.W.Frag) (mg : Str → Option Value) (base : Heap) (x : Str) (ps : List Str) (k : Nat) (sp : Sp) : Prop :=
  ∃ f fd, FnOk P w K mg base CX0 k f fd ps sp ∧ mg x = some (.ref f) ∧ PySem.W.keepIn K (.ref f) = true ∧ Binds K fd ps []
def Has (K : PySem.W.Frag) (mg : Str → Option Value) (x : Str) (st : Stmt) : Prop := ∃ f fd, Fun K x x st f fd ∧ mg x = some (.ref f)
structure Blt (mg : Str → Option Value) : Prop where
  isi : mg "isinstance" = none
  int_ : mg "int" = none
  bool_ : mg "bool" = none
  tuple_ : mg "tuple" = none
  list_ : mg "list" = none
  len_ : mg "len" = none
  abs_ : mg "abs" = none
  sorted_ : mg "sorted" = none
  set_ : mg "set" = none
  range_ : mg "range" = none
  min_ : mg "min" = none
  str_ : mg "str" = none
  reversed_ : mg "reversed" = none
  repr_ : mg "repr" = none
theorem pe_can {X : Cx} {x : Str} {ps : List Str} {k : Nat} {sp : Sp} {e : Expr} {es : List Expr} {t : TA} {p pos : Pos} (C : Can X.prog X.w X.K X.mg X.base x ps k sp) (hr : Room k X.A) (hg : Gl X x)
    (ha : PA X (e :: es) t) (hdb : (x == ("__debug__" : Str)) = false := by decide) (he : starEach (e :: es) X.env = (false, eval e X.env) :: starEach es X.env := by rfl) (hpl : (backTo pos (starEach es X.env)).any (·.1) = false := by rfl) :
    PE X (.Call (.Name x p) (e :: es) [] pos) (tCall sp [] E0 t) := by
  obtain ⟨f, fd, F, gm, kp, b⟩ := C
  exact pe_call F hr hg gm kp b .nil pass0 ha hdb he hpl
/-! ### isinstance of data -/
def tn : PyData → String
  | .none => "NoneType"
  | .bool _ => "bool"
  | .int _ => "int"
  | .str _ => "str"
  | .list _ => "list"
  | .tuple _ => "tuple"
  | .dict _ => "dict"
theorem Dt.ty {K : PySem.W.Frag} {av : List Addr} {H : Hp} {v : V} {d : PyData} (x : Dt av H v d) : TyX K H v (.type (tn d)) := by
  cases x with
  | non => exact .base .non
  | bl b => exact .base (.bl b)
  | int i => exact .base (.int i)
  | str y => exact .base (.str y)
  | lst _ _ e _ => exact .base (.lst e)
  | tup _ e _ => exact .base (.tup e)
  | dct _ e => exact .base (.dK e)
def aInt : PyData → Bool
  | .int _ => true
  | .bool _ => true
  | _ => false
def aBool : PyData → Bool
  | .bool _ => true
  | _ => false
def aTup : PyData → Bool
  | .tuple _ => true
  | _ => false
theorem kit_int (d : PyData) : kitB (tn d) "int" = some (aInt d) := by
  cases d <;> first | exact (show kitB "NoneType" "int" = some false by decide +kernel) | exact (show kitB "bool" "int" = some true by decide +kernel) | exact (show kitB "int" "int" = some true by decide +kernel) | exact (show kitB "str" "int" = some false by decide +kernel) | exact (show kitB "list" "int" = some false by decide +kernel) | exact (show kitB "tuple" "int" = some false by decide +kernel) | exact (show kitB "dict" "int" = some false by decide +kernel)
theorem kit_bool (d : PyData) : kitB (tn d) "bool" = some (aBool d) := by
  cases d <;> first | exact (show kitB "NoneType" "bool" = some false by decide +kernel) | exact (show kitB "bool" "bool" = some true by decide +kernel) | exact (show kitB "int" "bool" = some false by decide +kernel) | exact (show kitB "str" "bool" = some false by decide +kernel) | exact (show kitB "list" "bool" = some false by decide +kernel) | exact (show kitB "tuple" "bool" = some false by decide +kernel) | exact (show kitB "dict" "bool" = some false by decide +kernel)
theorem kit_tup (d : PyData) : kitB (tn d) "tuple" = some (aTup d) := by
  cases d <;> first | exact (show kitB "NoneType" "tuple" = some false by decide +kernel) | exact (show kitB "bool" "tuple" = some false by decide +kernel) | exact (show kitB "int" "tuple" = some false by decide +kernel) | exact (show kitB "str" "tuple" = some false by decide +kernel) | exact (show kitB "list" "tuple" = some false by decide +kernel) | exact (show kitB "tuple" "tuple" = some true by decide +kernel) | exact (show kitB "dict" "tuple" = some false by decide +kernel)
def rIs (T : String) (f : PyData → Bool) : List V → Hp → VK → Prop := fun xs H Q => ∃ v d av, xs = [v, .ty T] ∧ Dt av H v d ∧ Q (.bl (f d)) H
theorem call_isD {X : Cx} {T : String} {f : PyData → Bool} (hf : ∀ d, kitB (tn d) T = some (f d)) : CallR X (.builtin "isinstance") (rIs T f) := by
  intro pins s σ H xs us Q I r h
  obtain ⟨v, d, av, e, hd, q⟩ := h
  exact call_isi pins s σ H xs us Q I r ⟨v, .ty T, .type (tn d), .type T, f d, e, .ty T, hd.ty, kit_ty (hf d), q⟩
/-! ### the program's own defs -/
section
variable {P : Program} {w : World} {K : PySem.W.Frag} {mg : Str → Option Value} {base : Heap}
abbrev sWhole : Stmt := topS 1
abbrev sWithin : Stmt := topS 2
abbrev sTupOf : Stmt := topS 4
abbrev sPlaceP : Stmt := topS 6
def whole : PyData → Bool
  | .int _ => true
  | _ => false
def within (d : PyData) (lo hi : Int) : Bool := match d with
  | .int i => decide (lo ≤ i) && decide (i ≤ hi)
  | _ => false
def tupOf (d : PyData) (n : Int) : Bool := match d with
  | .tuple ds => decide ((ds.length : Int) = n)
  | _ => false
theorem scWhole : FnScope ["thing"] ["thing"] (defScope sWhole) := ⟨rfl, rfl, rfl, by decide +kernel, rfl, by decide +kernel, by decide +kernel⟩
theorem scWithin : FnScope ["thing", "low", "high"] ["thing", "low", "high"] (defScope sWithin) := ⟨rfl, rfl, rfl, by decide +kernel, rfl, by decide +kernel, by decide +kernel⟩
theorem scTupOf : FnScope ["thing", "many"] ["thing", "many"] (defScope sTupOf) := ⟨rfl, rfl, rfl, by decide +kernel, rfl, by decide +kernel, by decide +kernel⟩
def spWhole : Sp := fun vs H Q _ => ∃ (v : V) (d : PyData) (av : List Addr), vs = [v] ∧ Dt av H v d ∧ Q (.bl (whole d)) H
theorem ok_whole (h : Has K mg "is_whole" sWhole) (B : Blt mg) : Can P w K mg base "is_whole" ["thing"] 1 spWhole := by
  obtain ⟨f, fd, F, g⟩ := h
  refine ⟨f, fd, F.ok (k := 0) scWhole (fun vs H Q E h => ?_) (fun cdv A outer s H vs Q E hr h => ?_), g, F.kp, F.binds fun _ _ _ _ _ _ us hl => match us, hl with | [_], _ => rfl⟩
  · obtain ⟨v, d, av, rfl, _⟩ := h
    rfl
  · obtain ⟨v, d, av, rfl, hd, q⟩ := h
    refine ⟨_, pss_one (ps_ret (pe_and (pe_callB (call_isD kit_int) (by rfl) B.isi boot_isinstance (pa_cons (pv 0) (pa_cons (pe_bltn (v := .ty "int") (by rfl) B.int_ boot_int rfl) pa_nil)))
      (pe_one (pe_not (pe_callB (call_isD kit_bool) (by rfl) B.isi boot_isinstance (pa_cons (pv 0) (pa_cons (pe_bltn (v := .ty "bool") (by rfl) B.bool_ boot_bool rfl) pa_nil))))))), ?_⟩
    refine ⟨v, rfl, v, d, av, rfl, hd, _, rfl, ite2 (fun e => ?_) (fun e => ?_)⟩
    · refine ⟨v, rfl, v, d, av, rfl, hd, _, rfl, ?_⟩
      have z : (!aBool d) = whole d := by cases d <;> first | rfl | cases e
      rw [z]; exact q
    · have z : false = whole d := by cases d <;> first | rfl | exact absurd rfl e
      rw [z]; exact q
def spWithin : Sp := fun vs H Q _ => ∃ (v : V) (d : PyData) (av : List Addr) (lo hi : Int), vs = [v, .int lo, .int hi] ∧ Dt av H v d ∧ Q (.bl (within d lo hi)) H
theorem ok_within (h : Has K mg "is_within" sWithin) (C : Can P w K mg base "is_whole" ["thing"] 1 spWhole) : Can P w K mg base "is_within" ["thing", "low", "high"] 2 spWithin := by
  obtain ⟨f, fd, F, g⟩ := h
  refine ⟨f, fd, F.ok (k := 1) scWithin (fun vs H Q E h => ?_) (fun cdv A outer s H vs Q E hr h => ?_), g, F.kp, F.binds fun _ _ _ _ _ _ us hl => match us, hl with | [_, _, _], _ => rfl⟩
  · obtain ⟨v, d, av, lo, hi, rfl, _⟩ := h
    rfl
  · obtain ⟨v, d, av, lo, hi, rfl, hd, q⟩ := h
    refine ⟨_, pss_one (ps_ret (pe_and (pe_can C hr (by rfl) (pa_cons (pv 0) pa_nil)) (pe_one (pe_chain op_le op_le (pv 1) (pv 0) (pv 2))))), ?_⟩
    refine ⟨v, rfl, v, d, av, rfl, hd, _, rfl, ite2 (fun e => ?_) (fun e => ?_)⟩
    · cases hd <;> first | (cases e; done) | skip
      rename_i i
      refine ⟨.int lo, rfl, .int i, rfl, lo, i, rfl, rfl, _, rfl, ite2 (fun e1 => ?_) (fun e1 => ?_)⟩
      · refine ⟨.int hi, rfl, i, hi, rfl, rfl, ?_⟩
        have z : decide (i ≤ hi) = within (.int i) lo hi := by
          show _ = (decide (lo ≤ i) && decide (i ≤ hi))
          rw [e1, Bool.true_and]
        rw [← z] at q; exact q
      · have z : false = within (.int i) lo hi := by
          show _ = (decide (lo ≤ i) && decide (i ≤ hi))
          rw [show decide (lo ≤ i) = false from Bool.eq_false_iff.mpr e1, Bool.false_and]
        rw [z]; exact q
    · have z : false = within d lo hi := by cases d <;> first | rfl | exact absurd rfl e
      rw [z]; exact q
def spTupOf : Sp := fun vs H Q _ => ∃ (v : V) (d : PyData) (av : List Addr) (n : Int), vs = [v, .int n] ∧ Dt av H v d ∧ Q (.bl (tupOf d n)) H
theorem ok_tupOf (h : Has K mg "is_tuple_of" sTupOf) (B : Blt mg) : Can P w K mg base "is_tuple_of" ["thing", "many"] 1 spTupOf := by
  obtain ⟨f, fd, F, g⟩ := h
  refine ⟨f, fd, F.ok (k := 0) scTupOf (fun vs H Q E h => ?_) (fun cdv A outer s H vs Q E hr h => ?_), g, F.kp, F.binds fun _ _ _ _ _ _ us hl => match us, hl with | [_, _], _ => rfl⟩
  · obtain ⟨v, d, av, n, rfl, _⟩ := h
    rfl
  · obtain ⟨v, d, av, n, rfl, hd, q⟩ := h
    refine ⟨_, pss_one (ps_ret (pe_and (pe_callB (call_isD kit_tup) (by rfl) B.isi boot_isinstance (pa_cons (pv 0) (pa_cons (pe_bltn (v := .ty "tuple") (by rfl) B.tuple_ boot_tuple rfl) pa_nil)))
      (pe_one (pe_cmpR op_eq (pe_callB call_len_seq (by rfl) B.len_ PySem.boot_len (pa_cons (pv 0) pa_nil)) (pv 1) (nomark _))))), ?_⟩
    refine ⟨v, rfl, v, d, av, rfl, hd, _, rfl, ite2 (fun e => ?_) (fun e => ?_)⟩
    · cases hd <;> first | (cases e; done) | skip
      rename_i a xs ds na ea hs
      refine ⟨.ref a, rfl, a, xs, rfl, .inr (SqT.of ea), .int n, rfl, rfl, ?_⟩
      have z : decide (V.int (xs.length : Int) = V.int n) = tupOf (.tuple ds) n := by
        show _ = decide ((ds.length : Int) = n)
        rw [hs.len]
        exact decide_eq_decide.mpr ⟨fun y => V.int.inj y, fun y => by rw [y]⟩
      rw [z]; exact q
    · have z : false = tupOf d n := by cases d <;> first | rfl | exact absurd rfl e
      rw [z]; exact q
end
end Rw

namespace Rw
open PySem PySem.Spec PyProof.Rows L2
/-! ### places of a house, by data -/
def lenOf : PyData → Int
  | .tuple (_ :: _ :: .int l :: _) => l
  | _ => 0
def PipesOk (ps : List PyData) : Prop := ∀ p ∈ ps, ∃ a b l r, p = .tuple (a :: b :: .int l :: r)
def houseD (n : Int) (ps : List PyData) : PyData := .tuple [.int n, .tuple ps]
def isPlace (n : Int) (ps : List PyData) : PyData → Bool
  | .tuple [x] => within x 0 (n - 1)
  | .tuple [.int p, y] => within (.int p) 0 ((ps.length : Int) - 1) && within y 1 (lenOf (ps.getD p.toNat .none) - 1)
  | _ => false
section
variable {P : Program} {w : World} {K : PySem.W.Frag} {mg : Str → Option Value} {base : Heap}
theorem scPlaceP : FnScope ["house", "thing", "rooms", "pipes"] ["house", "thing"] (defScope sPlaceP) := ⟨rfl, rfl, rfl, by decide +kernel, rfl, by decide +kernel, by decide +kernel⟩
def spPlaceP : Sp := fun vs H Q _ => ∃ (h v : V) (n : Int) (ps : List PyData) (d : PyData) (a1 a2 : List Addr), vs = [h, v] ∧ Dt a1 H h (houseD n ps) ∧ PipesOk ps ∧ Dt a2 H v d ∧ Q (.bl (isPlace n ps d)) H
/-! the length of the pipe at a place of the list -/
theorem pipe_at {a1 : List Addr} {H : Hp} {xs : List V} {ps : List PyData} (hs : Dts a1 H xs ps) (hp : PipesOk ps) {i : Nat} (hi : i < ps.length) :
    ∃ pa ys, xs[i]? = some (.ref pa) ∧ H pa = some (.tup ys) ∧ ys[2]? = some (.int (lenOf (ps.getD i .none))) := by
  have e : ps[i]? = some ps[i] := List.getElem?_eq_getElem hi
  obtain ⟨v, ev, dv⟩ := hs.get i e
  obtain ⟨a, b, l, r, ep⟩ := hp ps[i] (List.getElem_mem hi)
  have eg : ps.getD i .none = .tuple (a :: b :: .int l :: r) := by
    rw [List.getD_eq_getElem?_getD, e, ← ep]; rfl
  rw [ep] at dv
  cases dv with
  | tup na ea da =>
    obtain ⟨u, eu, du⟩ := da.get 2 (d := .int l) rfl
    cases du
    refine ⟨_, _, ev, ea, ?_⟩
    rw [eg]; exact eu
theorem ok_placeP (h : Has K mg "is_place" sPlaceP) (B : Blt mg) (CT : Can P w K mg base "is_tuple_of" ["thing", "many"] 1 spTupOf) (CW : Can P w K mg base "is_within" ["thing", "low", "high"] 2 spWithin) :
    Can P w K mg base "is_place" ["house", "thing"] 3 spPlaceP := by
  obtain ⟨f, fd, F, g⟩ := h
  refine ⟨f, fd, F.ok (k := 2) scPlaceP (fun vs H Q E h => ?_) (fun cdv A outer s H vs Q E hr h => ?_), g, F.kp, F.binds fun _ _ _ _ _ _ us hl => match us, hl with | [_, _], _ => rfl⟩
  · obtain ⟨h, v, n, ps, d, a1, a2, rfl, _⟩ := h
    rfl
  · obtain ⟨h, v, n, ps, d, a1, a2, rfl, hh, hp, hd, q⟩ := h
    refine ⟨_, pss_cons (ps_asg (pv 0) (pg_tup (by rfl) (pgs_cons (pg_name (i := 2) scPlaceP.nd rfl (.inl rfl)) (pgs_cons (pg_name (i := 3) scPlaceP.nd rfl (.inl rfl)) pgs_nil))))
      (pss_cons (ps_if (pt_val (pe_can CT (hr.mono (by decide)) (by rfl) (pa_cons (pv 1) (pa_cons pe_int pa_nil))))
        (pss_one (ps_ret (pe_can CW hr (by rfl) (pa_cons (pe_ix ix_tup (pv 1) pe_int (fun _ _ => rfl)) (pa_cons pe_int (pa_cons (pe_op op_sub (pv 2) pe_int) pa_nil)))))) pss_nil)
      (pss_cons (ps_if (PW.pt (pw_or (pt_not (pt_val (pe_can CT (hr.mono (by decide)) (by rfl) (pa_cons (pv 1) (pa_cons pe_int pa_nil)))))
          (pw_or1 (pt_not (pt_val (pe_can CW hr (by rfl) (pa_cons (pe_ix ix_tup (pv 1) pe_int (fun _ _ => rfl)) (pa_cons pe_int (pa_cons (pe_op op_sub (pe_callB call_len_seq (by rfl) B.len_ PySem.boot_len (pa_cons (pv 3) pa_nil)) pe_int) pa_nil)))))))))
        (pss_one (ps_ret pe_bl)) pss_nil)
      (pss_one (ps_ret (pe_can CW hr (by rfl) (pa_cons (pe_ix ix_tup (pv 1) pe_int (fun _ _ => rfl)) (pa_cons pe_int (pa_cons (pe_op op_sub (pe_ix ix_tup (pe_ix ix_tup (pv 3) (pe_ix ix_tup (pv 1) pe_int (fun _ _ => rfl)) (fun _ _ => rfl)) pe_int (fun _ _ => rfl)) pe_int) pa_nil)))))))), ?_⟩
    cases hh with
    | tup na ea da =>
      rename_i ah xh
      cases da with
      | cons d1 da =>
        cases d1
        cases da with
        | cons d2 da =>
          cases da
          cases d2 with
          | tup nb eb db =>
            rename_i ap xp
            refine ⟨.ref ah, rfl, ah, [.int n, .ref ap], rfl, SqT.of ea, rfl, _, _, rfl, _, [], rfl, rfl, ?_⟩
            refine ⟨v, rfl, v, d, a2, 1, rfl, hd, _, rfl, ite2 (fun e => ?_) (fun e => ?_)⟩
            · -- one part
              cases hd <;> first | (cases e; done) | skip
              rename_i a xs ds na' ea' hs
              have e1 : (ds.length : Int) = 1 := of_decide_eq_true e
              obtain ⟨x, rfl⟩ : ∃ x, ds = [x] := by
                cases ds with
                | nil => exact absurd e1 (by decide)
                | cons x r => cases r with
                  | nil => exact ⟨x, rfl⟩
                  | cons y r => exact absurd e1 (by rw [List.length_cons, List.length_cons]; omega)
              obtain ⟨y, ey, dy⟩ := hs.get 0 (d := x) rfl
              refine ⟨.ref a, rfl, a, xs, 0, y, rfl, rfl, SqT.of ea', atI_nat (j := 0) ey, .int n, rfl, n, 1, rfl, rfl, y, x, a2, 0, n - 1, rfl, dy, ?_⟩
              exact q
            · refine ⟨v, rfl, v, d, a2, 2, rfl, hd, _, rfl, ite2 (fun e2 => ?_) (fun e2 => ?_)⟩
              · have z : false = isPlace n ps d := by
                  cases d <;> first | rfl | skip
                  rename_i ds
                  cases ds with
                  | nil => rfl
                  | cons x r => cases r with
                    | nil => exact absurd rfl e
                    | cons y r => cases r with
                      | nil => cases e2
                      | cons _ _ => cases x <;> rfl
                rw [← z] at q; exact q
              · have e2' : tupOf d 2 = true := by
                  cases hq : tupOf d 2 with
                  | true => rfl
                  | false => rw [hq] at e2; exact absurd rfl e2
                cases hd <;> first | (cases e2'; done) | skip
                rename_i a xs ds na' ea' hs
                have e1 : (ds.length : Int) = 2 := of_decide_eq_true e2'
                obtain ⟨x, y, rfl⟩ : ∃ x y, ds = [x, y] := by
                  match ds, e1 with
                  | [x, y], _ => exact ⟨x, y, rfl⟩
                  | [], e => exact absurd e (by decide)
                  | [_], e => simp at e
                  | _ :: _ :: _ :: _, e => rw [List.length_cons, List.length_cons, List.length_cons] at e; omega
                obtain ⟨vx, ex, dx⟩ := hs.get 0 (d := x) rfl
                obtain ⟨vy, ey, dy⟩ := hs.get 1 (d := y) rfl
                refine ⟨.ref a, rfl, a, xs, 0, vx, rfl, rfl, SqT.of ea', atI_nat (j := 0) ex, .ref ap, rfl, ap, xp, rfl, .inr (SqT.of eb), _, 1, rfl, rfl, vx, x, a2, 0, _, rfl, dx, _, rfl, ite2 (fun e3 => ?_) (fun e3 => ?_)⟩
                · have z : false = isPlace n ps (.tuple [x, y]) := by
                    cases x <;> first | rfl | skip
                    rename_i i
                    rw [db.len] at e3
                    show _ = (within (.int i) 0 ((ps.length : Int) - 1) && _)
                    rw [(Bool.not_eq_true' _).mp e3]; rfl
                  rw [← z] at q; exact q
                · rw [db.len] at e3
                  have e4 : within x 0 ((ps.length : Int) - 1) = true := by
                    cases hq : within x 0 ((ps.length : Int) - 1) with
                    | true => rfl
                    | false => rw [hq] at e3; exact absurd rfl e3
                  cases dx <;> first | (cases e4; done) | skip
                  rename_i i
                  have b1 : 0 ≤ i ∧ i ≤ (ps.length : Int) - 1 := by
                    have := (Bool.and_eq_true _ _).mp (show (decide (0 ≤ i) && decide (i ≤ (ps.length : Int) - 1)) = true from e4)
                    exact ⟨of_decide_eq_true this.1, of_decide_eq_true this.2⟩
                  obtain ⟨pa, ys, g1, g2, g3⟩ := pipe_at db hp (i := i.toNat) (by omega)
                  have ei : ((i.toNat : Nat) : Int) = i := by omega
                  refine ⟨.ref a, rfl, a, xs, 1, vy, rfl, rfl, SqT.of ea', atI_nat (j := 1) ey, .ref ap, rfl, .ref a, rfl, a, xs, 0, .int i, rfl, rfl, SqT.of ea', atI_nat (j := 0) ex, ap, xp, i, .ref pa, rfl, rfl, SqT.of eb, ?_, pa, ys, 2, _, rfl, rfl, SqT.of g2, atI_nat (j := 2) g3, _, 1, rfl, rfl, vy, y, a2, 1, _, rfl, dy, ?_⟩
                  · rw [← ei]; exact atI_nat g1
                  · have z : within y 1 (lenOf (ps.getD i.toNat .none) - 1) = isPlace n ps (.tuple [.int i, y]) := by
                      show _ = (within (.int i) 0 ((ps.length : Int) - 1) && within y 1 (lenOf (ps.getD i.toNat .none) - 1))
                      rw [e4, Bool.true_and]
                    rw [← z] at q; exact q
end
end Rw

namespace Rw
open PySem PySem.Spec PyProof.Rows L2
/-! ### the law's own reading of places -/
section
variable {P : Program} {w : World} {K : PySem.W.Frag} {mg : Str → Option Value} {base : Heap}
abbrev sFrom : Stmt := topS 21
abbrev sIsOne : Stmt := topS 22
theorem scFrom : FnScope ["_law_thing", "_law_low", "_law_high"] ["_law_thing", "_law_low", "_law_high"] (defScope sFrom) := ⟨rfl, rfl, rfl, by decide +kernel, rfl, by decide +kernel, by decide +kernel⟩
theorem scIsOne : FnScope ["_law_house_here", "_law_thing"] ["_law_house_here", "_law_thing"] (defScope sIsOne) := ⟨rfl, rfl, rfl, by decide +kernel, rfl, by decide +kernel, by decide +kernel⟩
theorem ok_from (h : Has K mg "_law_is_from" sFrom) (B : Blt mg) : Can P w K mg base "_law_is_from" ["_law_thing", "_law_low", "_law_high"] 1 spWithin := by
  obtain ⟨f, fd, F, g⟩ := h
  refine ⟨f, fd, F.ok (k := 0) scFrom (fun vs H Q E h => ?_) (fun cdv A outer s H vs Q E hr h => ?_), g, F.kp, F.binds fun _ _ _ _ _ _ us hl => match us, hl with | [_, _, _], _ => rfl⟩
  · obtain ⟨v, d, av, lo, hi, rfl, _⟩ := h
    rfl
  · obtain ⟨v, d, av, lo, hi, rfl, hd, q⟩ := h
    refine ⟨_, pss_one (ps_ret (pe_and (pe_callB (call_isD kit_int) (by rfl) B.isi boot_isinstance (pa_cons (pv 0) (pa_cons (pe_bltn (v := .ty "int") (by rfl) B.int_ boot_int rfl) pa_nil)))
      (pe_and (pe_not (pe_callB (call_isD kit_bool) (by rfl) B.isi boot_isinstance (pa_cons (pv 0) (pa_cons (pe_bltn (v := .ty "bool") (by rfl) B.bool_ boot_bool rfl) pa_nil))))
      (pe_one (pe_chain op_le op_le (pv 1) (pv 0) (pv 2)))))), ?_⟩
    refine ⟨v, rfl, v, d, av, rfl, hd, _, rfl, ite2 (fun e => ?_) (fun e => ?_)⟩
    · refine ⟨v, rfl, v, d, av, rfl, hd, _, rfl, _, rfl, ite2 (fun e2 => ?_) (fun e2 => ?_)⟩
      · cases hd <;> first | (cases e; done) | (cases e2; done) | skip
        rename_i i
        refine ⟨.int lo, rfl, .int i, rfl, lo, i, rfl, rfl, _, rfl, ite2 (fun e1 => ?_) (fun e1 => ?_)⟩
        · refine ⟨.int hi, rfl, i, hi, rfl, rfl, ?_⟩
          have z : decide (i ≤ hi) = within (.int i) lo hi := by
            show _ = (decide (lo ≤ i) && decide (i ≤ hi))
            rw [e1, Bool.true_and]
          rw [← z] at q; exact q
        · have z : false = within (.int i) lo hi := by
            show _ = (decide (lo ≤ i) && decide (i ≤ hi))
            rw [show decide (lo ≤ i) = false from Bool.eq_false_iff.mpr e1, Bool.false_and]
          rw [← z] at q; exact q
      · have z : false = within d lo hi := by cases d <;> first | rfl | exact absurd rfl e2
        rw [← z] at q; exact q
    · have z : false = within d lo hi := by cases d <;> first | rfl | exact absurd rfl e
      rw [← z] at q; exact q
theorem ok_isOne (h : Has K mg "_law_is_one" sIsOne) (B : Blt mg) (CF : Can P w K mg base "_law_is_from" ["_law_thing", "_law_low", "_law_high"] 1 spWithin) :
    Can P w K mg base "_law_is_one" ["_law_house_here", "_law_thing"] 2 spPlaceP := by
  obtain ⟨f, fd, F, g⟩ := h
  refine ⟨f, fd, F.ok (k := 1) scIsOne (fun vs H Q E h => ?_) (fun cdv A outer s H vs Q E hr h => ?_), g, F.kp, F.binds fun _ _ _ _ _ _ us hl => match us, hl with | [_, _], _ => rfl⟩
  · obtain ⟨h, v, n, ps, d, a1, a2, rfl, _⟩ := h
    rfl
  · obtain ⟨h, v, n, ps, d, a1, a2, rfl, hh, hp, hd, q⟩ := h
    refine ⟨_, pss_cons (ps_if (PW.pt (pw_or (pt_not (pt_val (pe_callB (call_isD kit_tup) (by rfl) B.isi boot_isinstance (pa_cons (pv 1) (pa_cons (pe_bltn (v := .ty "tuple") (by rfl) B.tuple_ boot_tuple rfl) pa_nil)))))
          (pw_or1 (pt_not (pt_chain op_le op_le pe_int (pe_callB call_len_seq (by rfl) B.len_ PySem.boot_len (pa_cons (pv 1) pa_nil)) pe_int)))))
        (pss_one (ps_ret pe_bl)) pss_nil)
      (pss_cons (ps_if (pt_cmpR op_eq (pe_callB call_len_seq (by rfl) B.len_ PySem.boot_len (pa_cons (pv 1) pa_nil)) pe_int (nomark _))
        (pss_one (ps_ret (pe_can CF hr (by rfl) (pa_cons (pe_ix ix_tup (pv 1) pe_int (fun _ _ => rfl)) (pa_cons pe_int (pa_cons (pe_op op_sub (pe_ix ix_tup (pv 0) pe_int (fun _ _ => rfl)) pe_int) pa_nil)))))) pss_nil)
      (pss_one (ps_ret (pe_and (pe_can CF hr (by rfl) (pa_cons (pe_ix ix_tup (pv 1) pe_int (fun _ _ => rfl)) (pa_cons pe_int (pa_cons (pe_op op_sub (pe_callB call_len_seq (by rfl) B.len_ PySem.boot_len (pa_cons (pe_ix ix_tup (pv 0) pe_int (fun _ _ => rfl)) pa_nil)) pe_int) pa_nil))))
        (pe_one (pe_can CF hr (by rfl) (pa_cons (pe_ix ix_tup (pv 1) pe_int (fun _ _ => rfl)) (pa_cons pe_int (pa_cons (pe_op op_sub (pe_ix ix_tup (pe_ix ix_tup (pe_ix ix_tup (pv 0) pe_int (fun _ _ => rfl)) (pe_ix ix_tup (pv 1) pe_int (fun _ _ => rfl)) (fun _ _ => rfl)) pe_int (fun _ _ => rfl)) pe_int) pa_nil))))))))), ?_⟩
    cases hh with
    | tup na ea da =>
      rename_i ah xh
      cases da with
      | cons d1 da =>
        cases d1
        cases da with
        | cons d2 da =>
          cases da
          cases d2 with
          | tup nb eb db =>
            rename_i ap xp
            refine ⟨v, rfl, v, d, a2, rfl, hd, _, rfl, ite2 (fun e => ?_) (fun e => ?_)⟩
            · have z : false = isPlace n ps d := by cases d <;> first | rfl | cases e
              rw [← z] at q; exact q
            · have e' : aTup d = true := by
                cases hq : aTup d with
                | true => rfl
                | false => rw [hq] at e; exact absurd rfl e
              cases hd <;> first | (cases e'; done) | skip
              rename_i a xs ds na' ea' hs
              have ln := hs.len
              have no : ∀ (c : ¬ (ds.length = 1 ∨ ds.length = 2)), Q (.bl false) H := fun c => by
                have z : false = isPlace n ps (.tuple ds) := by
                  match ds, c with
                  | [], _ => rfl
                  | [x], c => exact absurd (Or.inl rfl) c
                  | [x, y], c => exact absurd (Or.inr rfl) c
                  | x :: _ :: _ :: _, _ => cases x <;> rfl
                rw [← z] at q; exact q
              refine ⟨.ref a, rfl, a, xs, rfl, .inr (SqT.of ea'), 1, _, rfl, rfl, _, rfl, ite2 (fun e1 => ?_) (fun e1 => ?_)⟩
              rotate_left
              · refine ⟨_, rfl, ite2 (fun e2 => ?_) (fun e2 => absurd rfl e2)⟩
                exact no fun c => e1 (decide_eq_true (show (1 : Int) ≤ (xs.length : Int) by omega))
              have e5 : ((1 : Int) ≤ (xs.length : Int)) := of_decide_eq_true e1
              refine ⟨_, 2, rfl, rfl, _, rfl, ite2 (fun e2 => ?_) (fun e2 => ?_)⟩
              · exact no fun c => by
                  have e4 : ¬ ((xs.length : Int) ≤ 2) := of_decide_eq_false ((Bool.not_eq_true' _).mp e2)
                  omega
              have e3 : decide ((xs.length : Int) ≤ 2) = true := by
                cases hq : decide ((xs.length : Int) ≤ 2) with
                | true => rfl
                | false => exact absurd (show (!decide ((xs.length : Int) ≤ 2)) = true by rw [hq]; rfl) e2
              have e4 : ((xs.length : Int) ≤ 2) := of_decide_eq_true e3
              refine ⟨.ref a, rfl, a, xs, rfl, .inr (SqT.of ea'), rfl, _, rfl, ite2 (fun e6 => ?_) (fun e6 => ?_)⟩
              · have e7 : (xs.length : Int) = 1 := V.int.inj (of_decide_eq_true e6)
                obtain ⟨x, rfl⟩ : ∃ x, ds = [x] := by
                  match ds, ln with
                  | [x], _ => exact ⟨x, rfl⟩
                  | [], e => exact absurd e7 (by rw [e]; decide)
                  | _ :: _ :: _, e => rw [e, List.length_cons, List.length_cons] at e7; omega
                obtain ⟨y, ey, dy⟩ := hs.get 0 (d := x) rfl
                exact ⟨.ref a, rfl, a, xs, 0, y, rfl, rfl, SqT.of ea', atI_nat (j := 0) ey, .ref ah, rfl, ah, _, 0, .int n, rfl, rfl, SqT.of ea, atI_nat (j := 0) rfl, n, 1, rfl, rfl, y, x, a2, 0, n - 1, rfl, dy, q⟩
              · have e7 : ¬ (xs.length : Int) = 1 := fun z => e6 (decide_eq_true (by rw [z]))
                obtain ⟨x, y, rfl⟩ : ∃ x y, ds = [x, y] := by
                  match ds, ln with
                  | [x, y], _ => exact ⟨x, y, rfl⟩
                  | [], e => exact absurd e5 (by rw [e]; decide)
                  | [_], e => exact absurd (by rw [e]; rfl) e7
                  | _ :: _ :: _ :: _, e => rw [e, List.length_cons, List.length_cons, List.length_cons] at e4; omega
                obtain ⟨vx, ex, dx⟩ := hs.get 0 (d := x) rfl
                obtain ⟨vy, ey, dy⟩ := hs.get 1 (d := y) rfl
                refine ⟨.ref a, rfl, a, xs, 0, vx, rfl, rfl, SqT.of ea', atI_nat (j := 0) ex, .ref ah, rfl, ah, _, 1, .ref ap, rfl, rfl, SqT.of ea, atI_nat (j := 1) rfl, ap, xp, rfl, .inr (SqT.of eb), _, 1, rfl, rfl, vx, x, a2, 0, _, rfl, dx, _, rfl, ite2 (fun e8 => ?_) (fun e8 => ?_)⟩
                · rw [db.len] at e8
                  cases dx <;> first | (cases e8; done) | skip
                  rename_i i
                  have b1 : 0 ≤ i ∧ i ≤ (ps.length : Int) - 1 := by
                    have := (Bool.and_eq_true _ _).mp (show (decide (0 ≤ i) && decide (i ≤ (ps.length : Int) - 1)) = true from e8)
                    exact ⟨of_decide_eq_true this.1, of_decide_eq_true this.2⟩
                  obtain ⟨pa, ys, g1, g2, g3⟩ := pipe_at db hp (i := i.toNat) (by omega)
                  have ei : ((i.toNat : Nat) : Int) = i := by omega
                  refine ⟨.ref a, rfl, a, xs, 1, vy, rfl, rfl, SqT.of ea', atI_nat (j := 1) ey, .ref ah, rfl, ah, _, 1, .ref ap, rfl, rfl, SqT.of ea, atI_nat (j := 1) rfl, .ref a, rfl, a, xs, 0, .int i, rfl, rfl, SqT.of ea', atI_nat (j := 0) ex, ap, xp, i, .ref pa, rfl, rfl, SqT.of eb, ?_, pa, ys, 2, _, rfl, rfl, SqT.of g2, atI_nat (j := 2) g3, _, 1, rfl, rfl, vy, y, a2, 1, _, rfl, dy, ?_⟩
                  · rw [← ei]; exact atI_nat g1
                  · have z : within y 1 (lenOf (ps.getD i.toNat .none) - 1) = isPlace n ps (.tuple [.int i, y]) := by
                      show _ = (within (.int i) 0 ((ps.length : Int) - 1) && within y 1 (lenOf (ps.getD i.toNat .none) - 1))
                      rw [e8, Bool.true_and]
                    rw [← z] at q; exact q
                · rw [db.len] at e8
                  have z : false = isPlace n ps (.tuple [x, y]) := by
                    cases x <;> first | rfl | skip
                    rename_i i
                    show _ = (within (.int i) 0 ((ps.length : Int) - 1) && _)
                    rw [show within (.int i) 0 ((ps.length : Int) - 1) = false from Bool.eq_false_iff.mpr e8]; rfl
                  rw [← z] at q; exact q
end
end Rw

namespace Rw
open PySem PySem.Spec PyProof.Rows L2
theorem Keep.upd {av : List Addr} {H H1 : Hp} {p : Addr} {o : HO} (n : H p = none) (k : Keep av H H1) : Keep av H (upd H1 p o) := fun b z e nb => by
  rw [upd_ne (ne_of_none e n)]; exact k b z e nb
theorem Keep.set {av : List Addr} {H H1 : Hp} {p : Addr} {o : HO} (n : p ∈ av) (k : Keep av H H1) : Keep av H (L2.upd H1 p o) := k.trans (Keep.put n)
theorem Keep.same {H H1 : Hp} (k : Keep [] H H1) : Same H H1 := fun b o e => k b o e List.not_mem_nil
theorem Keep.of {av : List Addr} {H H1 : Hp} (k : Keep [] H H1) : Keep av H H1 := k.mono fun _ m => nomatch m
theorem cut_to (xs : List V) (k : Nat) : cutV xs none (some (k : Int)) = xs.take k := by
  unfold cutV
  rw [HT.sIx_none, HT.sIx_nat, List.drop_zero, Nat.sub_zero]
  by_cases h : k ≤ xs.length
  · rw [Nat.min_eq_left h]
  · rw [Nat.min_eq_right (by omega), List.take_of_length_le (Nat.le_refl _), List.take_of_length_le (by omega)]
theorem cut_from (xs : List V) (k : Nat) : cutV xs (some (k : Int)) none = xs.drop k := by
  unfold cutV
  rw [HT.sIx_none, HT.sIx_nat]
  by_cases h : k ≤ xs.length
  · rw [Nat.min_eq_left h, List.take_of_length_le (by rw [List.length_drop]; exact Nat.le_refl _)]
  · rw [Nat.min_eq_right (by omega), List.drop_of_length_le (Nat.le_refl _), List.drop_of_length_le (show xs.length ≤ k by omega), List.take_nil]
/-! ### the deck: its cells, its rests, its count (at most b) -/
structure Deck (H : Hp) (D C R : Addr) (b : Int) : Prop where
  ex : ∃ (ns rs : List Int) (c : Int), H D = some (.lst [.ref C, .ref R, .int c]) ∧ H C = some (.lst (ns.map V.int)) ∧ H R = some (.lst (rs.map V.int)) ∧
    rs.length = ns.length ∧ 0 < ns.length ∧ ns.length ≤ 100 ∧ (∀ n ∈ ns, 0 ≤ n) ∧ (∀ r ∈ rs, 0 ≤ r) ∧ 0 ≤ c ∧ c ≤ b
  cr : C ≠ R
  dc : D ≠ C
  dr : D ≠ R
theorem Deck.mono {H : Hp} {D C R : Addr} {b b' : Int} (x : Deck H D C R b) (h : b ≤ b') : Deck H D C R b' := by
  obtain ⟨⟨ns, rs, c, e1, e2, e3, e4, e5, e6, e7, e8, e9, e10⟩, n1, n2, n3⟩ := x
  exact ⟨⟨ns, rs, c, e1, e2, e3, e4, e5, e6, e7, e8, e9, by omega⟩, n1, n2, n3⟩
theorem Deck.keep {H H' : Hp} {D C R : Addr} {b : Int} (x : Deck H D C R b) (k : Keep [] H H') : Deck H' D C R b := by
  obtain ⟨⟨ns, rs, c, e1, e2, e3, r⟩, n1, n2, n3⟩ := x
  exact ⟨⟨ns, rs, c, k _ _ e1 List.not_mem_nil, k _ _ e2 List.not_mem_nil, k _ _ e3 List.not_mem_nil, r⟩, n1, n2, n3⟩
/-! a store elsewhere leaves the deck -/
theorem Deck.other {H : Hp} {D C R p : Addr} {b : Int} {o : HO} (x : Deck H D C R b) (h1 : p ≠ D) (h2 : p ≠ C) (h3 : p ≠ R) : Deck (upd H p o) D C R b := by
  obtain ⟨⟨ns, rs, c, e1, e2, e3, r⟩, n1, n2, n3⟩ := x
  exact ⟨⟨ns, rs, c, by rw [upd_ne h1.symm]; exact e1, by rw [upd_ne h2.symm]; exact e2, by rw [upd_ne h3.symm]; exact e3, r⟩, n1, n2, n3⟩
theorem Deck.ne {H : Hp} {D C R p : Addr} {b : Int} (x : Deck H D C R b) (n : H p = none) : p ≠ D ∧ p ≠ C ∧ p ≠ R := by
  obtain ⟨⟨ns, rs, c, e1, e2, e3, r⟩, _⟩ := x
  exact ⟨(ne_of_none e1 n).symm, (ne_of_none e2 n).symm, (ne_of_none e3 n).symm⟩
theorem Deck.new {H : Hp} {D C R p : Addr} {b : Int} {o : HO} (x : Deck H D C R b) (n : H p = none) : Deck (upd H p o) D C R b :=
  x.other (x.ne n).1 (x.ne n).2.1 (x.ne n).2.2
section
variable {P : Program} {w : World} {K : PySem.W.Frag} {mg : Str → Option Value} {base : Heap}
abbrev sDeck : Stmt := topS 8
theorem scDeck : FnScope ["_law_script", "_law_cells", "_law_cell"] ["_law_script"] (defScope sDeck) := ⟨rfl, rfl, rfl, by decide +kernel, rfl, by decide +kernel, by decide +kernel⟩
def spDeck (K : PySem.W.Frag) : Sp := fun vs H Q _ => ∃ (a : Addr) (ns : List Int), vs = [.ref a] ∧ SqL K H a (ns.map V.int) ∧ ns.length ≤ 63 ∧
  ∀ H' D C R, Keep [] H H' → H D = none → H C = none → H R = none → Deck H' D C R 0 → Q (.ref D) H'
theorem abs_nn (i : Int) : 0 ≤ (if i < 0 then -i else i) := by split <;> omega
theorem ok_deck (h : Has K mg "_law_deck" sDeck) (B : Blt mg) : Can P w K mg base "_law_deck" ["_law_script"] 1 (spDeck K) := by
  obtain ⟨f, fd, F, g⟩ := h
  refine ⟨f, fd, F.ok (k := 0) scDeck (fun vs H Q E h => ?_) (fun cdv A outer s H vs Q E hr h => ?_), g, F.kp, F.binds fun _ _ _ _ _ _ us hl => match us, hl with | [_], _ => rfl⟩
  · obtain ⟨a, ns, rfl, _⟩ := h
    rfl
  · obtain ⟨a, ns, rfl, hS, hlen, q⟩ := h
    refine ⟨_, pss_cons (ps_set (i := 1) scDeck.nd rfl (.inl rfl) (pe_op op_cat
        (pe_lc (own := [("_law_cell", 2)]) (g := gName 2) (tt := tYes) rfl scDeck.nd (pi_list (pe_slice sl_list (pv 0) po_none (po_some pe_int))) (blkOk_by (N := ["_law_script", "_law_cells", "_law_cell"]) (sc := defScope sDeck) (by decide +kernel))
          (fun _ _ _ _ _ => pg_name (i := 2) scDeck.nd rfl (Or.inl rfl)) (fun _ _ _ _ _ => pts_nil) (fun _ _ _ _ _ => pe_callB call_abs (by rfl) B.abs_ boot_abs (pa_cons (pv 2) pa_nil)))
        (pe_op op_rep (pe_lst (pa_cons pe_int pa_nil)) (pe_callTy call_int1 (by rfl) B.int_ boot_int (pa_cons (pe_cmpR op_eq (pe_callB call_len_seq (by rfl) B.len_ PySem.boot_len (pa_cons (pv 0) pa_nil)) pe_int (nomark _)) pa_nil)))))
      (pss_one (ps_ret (pe_lst (pa_cons (pv 1) (pa_cons
        (pe_lc (own := [("_law_cell", 2)]) (g := gName 2) (tt := tYes) rfl scDeck.nd (pi_list (pv 1)) (blkOk_by (N := ["_law_script", "_law_cells", "_law_cell"]) (sc := defScope sDeck) (by decide +kernel))
          (fun _ _ _ _ _ => pg_name (i := 2) scDeck.nd rfl (Or.inl rfl)) (fun _ _ _ _ _ => pts_nil) (fun _ _ _ _ _ => pe_op op_mul (pv 2) (pe_callTy call_int1 (by rfl) B.int_ boot_int (pa_cons (pe_cmpR op_ge (pv 2) (pe_op op_pow pe_int pe_int) (nomark _)) pa_nil))))
        (pa_cons pe_int pa_nil)))))), ?_⟩
    refine ⟨.ref a, rfl, 62, rfl, a, _, rfl, hS, fun c nc => ?_⟩
    rw [show cutV (ns.map V.int) none (some 62) = (ns.take 62).map V.int by rw [show (62 : Int) = ((62 : Nat) : Int) from rfl, cut_to, List.map_take]]
    refine ⟨c, rfl, ⟨_, SqL.of upd_same⟩, fun D nD => ?_⟩
    have k1 : Keep [] H (upd H c (.lst ((ns.take 62).map V.int))) := Keep.new nc
    refine lc_list (K := K) (a := c) (xs := (ns.take 62).map V.int)
      (fun i G => Keep [] (upd H c (.lst ((ns.take 62).map V.int))) G ∧ ∃ cs : List Int, cs.length = i ∧ (∀ n ∈ cs, 0 ≤ n) ∧ G D = some (.lst (cs.map V.int)))
      ⟨Keep.new nD, [], rfl, fun _ m => absurd m List.not_mem_nil, upd_same⟩ (fun i G _ p => p.1.same.seq (SqL.of upd_same)) (fun i x G hx p => ?_) (fun G p => ?_)
    · obtain ⟨k2, cs, l2, c2, e2⟩ := p
      rw [List.getElem?_map] at hx
      obtain ⟨n, hn, rfl⟩ := Option.map_eq_some_iff.mp hx
      have hi : i < 62 := by
        have := (List.getElem?_eq_some_iff.mp hn).1
        rw [List.length_take] at this; omega
      refine ⟨rfl, .int n, rfl, n, rfl, cs.map V.int, e2, by rw [List.length_map, l2]; exact small1000 (by omega), k2.upd nD, cs ++ [if n < 0 then -n else n], by rw [List.length_append, l2]; rfl, fun z hz => ?_, by rw [upd_same, List.map_append]; rfl⟩
      rcases List.mem_append.mp hz with hz | hz
      · exact c2 z hz
      · rw [List.mem_singleton.mp hz]; exact abs_nn n
    · obtain ⟨k2, cs, l2, c2, e2⟩ := p
      have l3 : cs.length = min 62 ns.length := by rw [l2, List.length_map, List.length_take]
      have k3 : Keep [] H G := k1.trans k2
      refine ⟨by decide, fun z nz => ?_⟩
      have e3 : (upd G z (.lst [.int 0])) D = some (.lst (cs.map V.int)) := by rw [upd_ne (ne_of_none e2 nz)]; exact e2
      have k4 : Keep [] H (upd G z (.lst [.int 0])) := k3.trans (Keep.new nz)
      refine ⟨.ref a, rfl, a, _, rfl, .inl (k4.same.seq hS), rfl, .inr ⟨_, rfl, z, _, _, rfl, rfl, upd_same, ?_, ?_, ?_, fun y ny => ?_⟩⟩
      · split <;> decide
      · split <;> decide
      · split <;> decide
      · have k5 := k4.trans (Keep.new (av := []) (o := .lst (List.replicate (Int.toNat (if decide (V.int ((ns.map V.int).length : Int) = V.int 0) = true then 1 else 0)) [V.int 0]).flatten) ny)
        obtain ⟨zs, ez, lz, pz⟩ : ∃ zs : List Int, (List.replicate (Int.toNat (if decide (V.int ((ns.map V.int).length : Int) = V.int 0) = true then 1 else 0)) [V.int 0]).flatten = zs.map V.int ∧ zs.length ≤ 1 ∧ (∀ n ∈ zs, 0 ≤ n) ∧ (ns.length = 0 → zs.length = 1) := by
          by_cases h0 : ns.length = 0
          · refine ⟨[0], ?_, by decide, fun n hn => by rw [List.mem_singleton.mp hn]; decide, fun _ => rfl⟩
            rw [List.length_map, h0]; rfl
          · refine ⟨[], ?_, by decide, (fun n hn => nomatch hn), fun e => absurd e h0⟩
            rw [if_neg]
            · rfl
            · rw [decide_eq_true_eq, List.length_map]
              intro e
              have := V.int.inj e
              omega
        rw [ez] at k5 ⊢
        refine ⟨D, y, _, _, rfl, rfl, by rw [upd_ne (ne_of_none e3 ny)]; exact e3, upd_same, ?_, fun C nC => ?_⟩
        · rw [List.length_map, List.length_map]
          exact Nat.le_of_lt (small1000 (by omega))
        · rw [← List.map_append]
          have k6 := k5.trans (Keep.new (av := []) (o := .lst ((cs ++ zs).map V.int)) nC)
          have hall : ∀ n ∈ cs ++ zs, 0 ≤ n := fun n hn => (List.mem_append.mp hn).elim (c2 n) (pz.1 n)
          have hl1 : (cs ++ zs).length ≤ 100 := by rw [List.length_append]; omega
          have hl0 : 0 < (cs ++ zs).length := by
            rw [List.length_append]
            by_cases h0 : ns.length = 0
            · have := pz.2 h0; omega
            · omega
          generalize cs ++ zs = ms at *
          generalize hG1 : upd _ C _ = G1 at k6 ⊢
          have eC : G1 C = some (.lst (ms.map V.int)) := by rw [← hG1]; exact upd_same
          have nHC : H C = none := by
            cases hq : H C with
            | none => rfl
            | some o =>
              have := k5.same C o hq
              rw [nC] at this; cases this
          refine ⟨.ref C, rfl, .ref C, rfl, C, rfl, ⟨_, SqL.of eC⟩, fun R nR => ?_⟩
          refine lc_list (K := K) (a := C) (xs := ms.map V.int)
            (fun i J => Keep [] G1 J ∧ ∃ rs : List Int, rs.length = i ∧ (∀ n ∈ rs, 0 ≤ n) ∧ J R = some (.lst (rs.map V.int)))
            ⟨Keep.new nR, [], rfl, fun _ m => absurd m List.not_mem_nil, upd_same⟩ (fun i J _ p => p.1.same.seq (SqL.of eC)) (fun i x J hx p => ?_) (fun J p => ?_)
          · obtain ⟨k7, rs, l7, c7, e7⟩ := p
            rw [List.getElem?_map] at hx
            obtain ⟨n, hn, rfl⟩ := Option.map_eq_some_iff.mp hx
            have hi : i < ms.length := (List.getElem?_eq_some_iff.mp hn).1
            have h0n : 0 ≤ n := hall n (List.mem_of_getElem? hn)
            refine ⟨rfl, .int n, rfl, .int n, rfl, 10, 18, rfl, rfl, ⟨by decide, by decide, by decide⟩, n, _, rfl, rfl, .inr ⟨_, rfl, n, _, rfl, rfl, .inr ?_, rs.map V.int, e7, by rw [List.length_map, l7]; exact small1000 (by omega), k7.upd nR, rs ++ [n * (if decide (n ≥ 10 ^ 18) = true then 1 else 0)], by rw [List.length_append, l7]; rfl, fun z hz => ?_, by rw [upd_same, List.map_append]; rfl⟩⟩
            · constructor <;> (split <;> decide)
            · rcases List.mem_append.mp hz with hz | hz
              · exact c7 z hz
              · rw [List.mem_singleton.mp hz]
                split <;> omega
          · obtain ⟨k7, rs, l7, c7, e7⟩ := p
            have eC2 : J C = some (.lst (ms.map V.int)) := k7.same _ _ eC
            refine ⟨show 3 ≤ sizeLine by decide, fun D2 nD2 => ?_⟩
            have k8 := k6.trans (k7.trans (Keep.new (av := []) (o := .lst [.ref C, .ref R, .int 0]) nD2))
            have fr : ∀ {p : Addr} {J' : Hp}, J' p = none → Keep [] H J' → H p = none := fun {p J'} n k => by
              cases hq : H p with
              | none => rfl
              | some o => rw [k.same p o hq] at n; cases n
            refine q _ D2 C R k8 (fr nD2 (k6.trans k7)) nHC (fr nR k6) ⟨⟨ms, rs, 0, upd_same, ?_, ?_, ?_, hl0, hl1, hall, c7, by decide, by decide⟩, ?_, ?_, ?_⟩
            · rw [upd_ne (ne_of_none eC2 nD2)]; exact eC2
            · rw [upd_ne (ne_of_none e7 nD2)]; exact e7
            · rw [l7, List.length_map]
            · exact ne_of_none eC nR
            · exact (ne_of_none eC2 nD2).symm
            · exact (ne_of_none e7 nD2).symm
end
end Rw

namespace Rw
open PySem PySem.Spec PyProof.Rows L2
theorem ixN_at {n : Nat} {i : Int} (h0 : 0 ≤ i) (h : i < n) : ixN n i = some i.toNat := by
  unfold ixN
  rw [if_pos h0]
  first | rw [if_pos (show i.toNat < n by omega)] | (rw [if_pos (show i < n by omega)])
theorem set_map (rs : List Int) (j : Nat) (x : Int) : (rs.map V.int).set j (.int x) = (rs.set j x).map V.int := by rw [List.map_set]
section
variable {P : Program} {w : World} {K : PySem.W.Frag} {mg : Str → Option Value} {base : Heap}
abbrev sNext : Stmt := topS 9
theorem scNext : FnScope ["_law_deck_here", "_law_many", "_law_cells", "_law_rests", "_law_count", "_law_spot", "_law_digit", "_law_mixed"] ["_law_deck_here", "_law_many"] (defScope sNext) := ⟨rfl, rfl, rfl, by decide +kernel, rfl, by decide +kernel, by decide +kernel⟩
def spNext : Sp := fun vs H Q _ => ∃ (D C R : Addr) (b m : Int), vs = [.ref D, .int m] ∧ 1 ≤ m ∧ m ≤ 10000000000000 ∧ Deck H D C R b ∧ b ≤ 1000000000 ∧
  ∀ H' k, Keep [D, R] H H' → Deck H' D C R (b + 1) → 0 ≤ k → k < m → Q (.int k) H'
theorem ok_next (h : Has K mg "_law_next" sNext) (B : Blt mg) : Can P w K mg base "_law_next" ["_law_deck_here", "_law_many"] 1 spNext := by
  obtain ⟨f, fd, F, g⟩ := h
  refine ⟨f, fd, F.ok (k := 0) scNext (fun vs H Q E h => ?_) (fun cdv A outer s H vs Q E hr h => ?_), g, F.kp, F.binds fun _ _ _ _ _ _ us hl => match us, hl with | [_, _], _ => rfl⟩
  · obtain ⟨D, C, R, b, m, rfl, _⟩ := h
    rfl
  · obtain ⟨D, C, R, b, m, rfl, m1, m2, dk, hb, q⟩ := h
    obtain ⟨⟨ns, rs, c, eD, eC, eR, lr, l0, l1, pn, pr, c0, cb⟩, nCR, nDC, nDR⟩ := dk
    refine ⟨_, pss_cons (ps_asg (pv 0) (pg_unl rfl (pgs_cons (pg_name (i := 2) scNext.nd rfl (.inl rfl)) (pgs_cons (pg_name (i := 3) scNext.nd rfl (.inl rfl)) (pgs_cons (pg_name (i := 4) scNext.nd rfl (.inl rfl)) pgs_nil)))))
      (pss_cons (ps_asg (pe_op op_add (pv 4) pe_int) (pg_sub (pv 0) pe_int set_list))
      (pss_cons (ps_set (i := 5) scNext.nd rfl (.inl rfl) (pe_op op_mod (pv 4) (pe_callB call_len_seq (by rfl) B.len_ PySem.boot_len (pa_cons (pv 2) pa_nil))))
      (pss_cons (ps_if (pt_cmpR op_gt (pe_ix ix_list (pv 3) (pv 5) (fun _ _ => rfl)) pe_int (nomark _))
        (pss_cons (ps_set (i := 6) scNext.nd rfl (.inl rfl) (pe_op op_mod (pe_ix ix_list (pv 3) (pv 5) (fun _ _ => rfl)) (pv 1)))
        (pss_cons (ps_asg (pe_op op_fdivW (pe_ix ix_list (pv 3) (pv 5) (fun _ _ => rfl)) (pv 1)) (pg_sub (pv 3) (pv 5) set_list))
        (pss_one (ps_ret (pv 6))))) pss_nil)
      (pss_cons (ps_set (i := 7) scNext.nd rfl (.inl rfl) (pe_op op_mul (pe_op op_add (pe_op op_add (pe_ix ix_list (pv 2) (pv 5) (fun _ _ => rfl)) (pe_op op_mul pe_int (pv 4))) pe_int) (pe_op op_add pe_int (pe_op op_mul pe_int (pv 4)))))
      (pss_cons (ps_set (i := 7) scNext.nd rfl (.inl rfl) (pe_op op_mod (pe_op op_add (pv 7) (pe_op op_mul pe_int (pv 4))) pe_int))
      (pss_cons (ps_set (i := 7) scNext.nd rfl (.inl rfl) (pe_op op_mod (pe_op op_add (pe_op op_mul (pv 7) (pv 7)) pe_int) pe_int))
      (pss_cons (ps_set (i := 7) scNext.nd rfl (.inl rfl) (pe_op op_mod (pe_op op_mul (pv 7) (pv 7)) pe_int))
      (pss_one (ps_ret (pe_op op_mod (pe_op op_fdiv (pv 7) pe_int) (pv 1))))))))))), ?_⟩
    refine ⟨.ref D, rfl, D, _, rfl, SqL.of eD, rfl, .ref C, _, rfl, .ref R, _, rfl, .int c, [], rfl, rfl, ?_⟩
    refine ⟨.int c, rfl, c, 1, rfl, rfl, .ref D, rfl, D, _, 2, 2, rfl, rfl, eD, rfl, ?_⟩
    have eD1 : upd H D (.lst [.ref C, .ref R, .int (c + 1)]) D = some (.lst [.ref C, .ref R, .int (c + 1)]) := upd_same
    have eC1 : upd H D (.lst [.ref C, .ref R, .int (c + 1)]) C = some (.lst (ns.map V.int)) := by rw [upd_ne nDC.symm]; exact eC
    have eR1 : upd H D (.lst [.ref C, .ref R, .int (c + 1)]) R = some (.lst (rs.map V.int)) := by rw [upd_ne nDR.symm]; exact eR
    have k1 : Keep [D, R] H (upd H D (.lst [.ref C, .ref R, .int (c + 1)])) := Keep.put (by simp)
    show (_ : Prop)
    generalize hG : upd H D (.lst ([V.ref C, V.ref R, V.int c].set 2 (V.int (c + 1)))) = G
    have hG' : upd H D (.lst [.ref C, .ref R, .int (c + 1)]) = G := hG
    rw [hG'] at eD1 eC1 eR1 k1
    have lnn : ((ns.map V.int).length : Int) = (ns.length : Int) := by rw [List.length_map]
    have sp0 : 0 ≤ c % (ns.length : Int) := Int.emod_nonneg _ (by omega)
    have sp1 : c % (ns.length : Int) < (ns.length : Int) := Int.emod_lt_of_pos _ (by omega)
    refine ⟨.int c, rfl, .ref C, rfl, C, _, rfl, .inl (SqL.of eC1), c, _, rfl, rfl, by rw [lnn]; omega, ?_⟩
    rw [lnn]
    dsimp only
    generalize hsp : c % (ns.length : Int) = sp at sp0 sp1 ⊢
    have atR : atI (rs.map V.int) sp = some (.int (rs.getD sp.toNat 0)) := by
      have e : ((sp.toNat : Nat) : Int) = sp := by omega
      rw [← e]
      refine atI_nat ?_
      rw [List.getElem?_map, List.getD_eq_getElem?_getD, List.getElem?_eq_getElem (show ((sp.toNat : Nat) : Int).toNat < rs.length by omega)]
      simp only [Int.toNat_natCast]
      rw [List.getElem?_eq_getElem (show sp.toNat < rs.length by omega)]; rfl
    have atC : atI (ns.map V.int) sp = some (.int (ns.getD sp.toNat 0)) := by
      have e : ((sp.toNat : Nat) : Int) = sp := by omega
      rw [← e]
      refine atI_nat ?_
      rw [List.getElem?_map, List.getD_eq_getElem?_getD]
      simp only [Int.toNat_natCast]
      rw [List.getElem?_eq_getElem (show sp.toNat < ns.length by omega)]; rfl
    generalize hr0 : rs.getD sp.toNat 0 = r at atR
    generalize hn0 : ns.getD sp.toNat 0 = n at atC
    refine ⟨.ref R, rfl, .int sp, rfl, R, _, sp, .int r, rfl, rfl, SqL.of eR1, atR, r, 0, rfl, rfl, _, rfl, ite2 (fun e => ?_) (fun e => ?_)⟩
    · have r0 : 0 < r := of_decide_eq_true e
      refine ⟨.ref R, rfl, .int sp, rfl, R, _, sp, .int r, rfl, rfl, SqL.of eR1, atR, .int m, rfl, r, m, rfl, rfl, (show (0 : Int) < m by omega), ?_⟩
      refine ⟨.ref R, rfl, .int sp, rfl, R, _, sp, .int r, rfl, rfl, SqL.of eR1, atR, .int m, rfl, r, m, rfl, rfl, wide_div (b := 64) (by omega) (by omega) (by decide) (by decide), ?_⟩
      refine ⟨.ref R, rfl, .int sp, rfl, R, _, sp, sp.toNat, rfl, rfl, eR1, ixN_at sp0 (by rw [List.length_map]; omega), ?_⟩
      rw [set_map]
      refine ⟨.int (r % m), rfl, q _ _ (k1.trans (Keep.put (by simp))) ⟨⟨ns, rs.set sp.toNat (r / m), c + 1, ?_, ?_, upd_same, ?_, l0, l1, pn, ?_, by omega, by omega⟩, nCR, nDC, nDR⟩ (Int.emod_nonneg _ (by omega)) (Int.emod_lt_of_pos _ (by omega))⟩
      · rw [upd_ne nDR]; exact eD1
      · rw [upd_ne nCR]; exact eC1
      · rw [List.length_set]; exact lr
      · intro z hz
        rcases List.mem_or_eq_of_mem_set hz with hz | hz
        · exact pr z hz
        · rw [hz]; exact Int.ediv_nonneg (by omega) (by omega)
    · have fin : ∀ x : Int, 0 ≤ x → Q (.int (x / 512 % m)) G := fun x hx =>
        q _ _ k1 ⟨⟨ns, rs, c + 1, eD1, eC1, eR1, lr, l0, l1, pn, pr, by omega, by omega⟩, nCR, nDC, nDR⟩ (Int.emod_nonneg _ (by omega)) (Int.emod_lt_of_pos _ (by omega))
      refine ⟨.ref C, rfl, .int sp, rfl, C, _, sp, .int n, rfl, rfl, SqL.of eC1, atC, .int c, rfl, 1009, c, rfl, rfl, .inl ⟨by decide, by decide⟩, n, _, rfl, rfl, _, 3, rfl, rfl, .int c, rfl, 2, c, rfl, rfl, .inl ⟨by decide, by decide⟩, 50021, _, rfl, rfl, _, _, rfl, rfl, .inr ⟨by omega, by omega⟩, ?_⟩
      dsimp only
      generalize (n + 1009 * c + 3) * (50021 + 2 * c) = x1
      refine ⟨.int x1, rfl, .int c, rfl, 60013, c, rfl, rfl, .inl ⟨by decide, by decide⟩, x1, _, rfl, rfl, _, _, rfl, rfl, (show (0 : Int) < 2305843009213693951 by decide), ?_⟩
      have y0 : 0 ≤ (x1 + 60013 * c) % 2305843009213693951 := Int.emod_nonneg _ (by decide)
      have y1 : (x1 + 60013 * c) % 2305843009213693951 < 2305843009213693951 := Int.emod_lt_of_pos _ (by decide)
      dsimp only
      generalize (x1 + 60013 * c) % 2305843009213693951 = x2 at y0 y1 ⊢
      refine ⟨.int x2, rfl, .int x2, rfl, x2, x2, rfl, rfl, .inl ⟨by omega, by omega⟩, _, 79633, rfl, rfl, _, _, rfl, rfl, (show (0 : Int) < 2305843009213693921 by decide), ?_⟩
      have z0 : 0 ≤ (x2 * x2 + 79633) % 2305843009213693921 := Int.emod_nonneg _ (by decide)
      have z1 : (x2 * x2 + 79633) % 2305843009213693921 < 2305843009213693921 := Int.emod_lt_of_pos _ (by decide)
      dsimp only
      generalize (x2 * x2 + 79633) % 2305843009213693921 = x3 at z0 z1 ⊢
      refine ⟨.int x3, rfl, .int x3, rfl, x3, x3, rfl, rfl, .inl ⟨by omega, by omega⟩, _, _, rfl, rfl, (show (0 : Int) < 2305843009213693951 by decide), ?_⟩
      have w0 : 0 ≤ (x3 * x3) % 2305843009213693951 := Int.emod_nonneg _ (by decide)
      dsimp only
      generalize (x3 * x3) % 2305843009213693951 = x4 at w0 ⊢
      exact ⟨.int x4, rfl, x4, 512, rfl, rfl, ⟨by decide, by decide⟩, .int m, rfl, _, m, rfl, rfl, (show (0 : Int) < m by omega), fin x4 w0⟩
end
end Rw

namespace Rw
open PySem PySem.Spec PyProof.Rows L2
theorem atI_of {α : Type} {xs : List α} {i : Int} {v : α} (h0 : 0 ≤ i) (h : xs[i.toNat]? = some v) : atI xs i = some v := by
  have hl := (List.getElem?_eq_some_iff.mp h).1
  unfold atI
  rw [ixN_at h0 (by omega)]
  exact h
theorem Deck.at {H : Hp} {D C R : Addr} {b : Int} (x : Deck H D C R b) : (∃ o, H D = some o) ∧ (∃ o, H C = some o) ∧ ∃ o, H R = some o := by
  obtain ⟨⟨ns, rs, c, e1, e2, e3, r⟩, _⟩ := x
  exact ⟨⟨_, e1⟩, ⟨_, e2⟩, ⟨_, e3⟩⟩
theorem Keep.free {H H' : Hp} {D C R p : Addr} {b : Int} (k : Keep [D, R] H H') (x : Deck H' D C R b) (n : H' p = none) : H p = none := by
  cases hq : H p with
  | none => rfl
  | some o =>
    have nd : p ∉ [D, R] := fun m => by
      obtain ⟨n1, n2, n3⟩ := x.ne n
      rcases List.mem_cons.mp m with m | m
      · exact n1 m
      · exact n3 (List.mem_singleton.mp m)
    rw [k p o hq nd] at n; cases n
theorem notDR {D R p : Addr} (h1 : p ≠ D) (h2 : p ≠ R) : p ∉ [D, R] := fun m => by
  rcases List.mem_cons.mp m with m | m
  · exact h1 m
  · exact h2 (List.mem_singleton.mp m)
section
variable {P : Program} {w : World} {K : PySem.W.Frag} {mg : Str → Option Value} {base : Heap}
abbrev sOne : Stmt := topS 10
abbrev sEdge : Stmt := topS 11
abbrev sSpots : Stmt := topS 12
abbrev sLength : Stmt := topS 13
theorem scOne : FnScope ["_law_deck_here", "_law_some"] ["_law_deck_here", "_law_some"] (defScope sOne) := ⟨rfl, rfl, rfl, by decide +kernel, rfl, by decide +kernel, by decide +kernel⟩
theorem scEdge : FnScope ["_law_deck_here", "_law_many"] ["_law_deck_here", "_law_many"] (defScope sEdge) := ⟨rfl, rfl, rfl, by decide +kernel, rfl, by decide +kernel, by decide +kernel⟩
theorem scSpots : FnScope ["_law_deck_here", "_law_low", "_law_high", "_law_many", "_law_k"] ["_law_deck_here", "_law_low", "_law_high", "_law_many"] (defScope sSpots) := ⟨rfl, rfl, rfl, by decide +kernel, rfl, by decide +kernel, by decide +kernel⟩
theorem scLength : FnScope ["_law_deck_here", "_law_far", "_law_some"] ["_law_deck_here", "_law_far"] (defScope sLength) := ⟨rfl, rfl, rfl, by decide +kernel, rfl, by decide +kernel, by decide +kernel⟩
def spOne : Sp := fun vs H Q _ => ∃ (D C R l : Addr) (b : Int) (xs : List V), vs = [.ref D, .ref l] ∧ H l = some (.lst xs) ∧ 1 ≤ xs.length ∧ xs.length ≤ 1000 ∧ l ≠ D ∧ l ≠ R ∧ Deck H D C R b ∧ b ≤ 1000000000 ∧
  ∀ H' (i : Nat) x, Keep [D, R] H H' → Deck H' D C R (b + 1) → xs[i]? = some x → Q x H'
theorem ok_one (h : Has K mg "_law_one" sOne) (B : Blt mg) (CN : Can P w K mg base "_law_next" ["_law_deck_here", "_law_many"] 1 spNext) : Can P w K mg base "_law_one" ["_law_deck_here", "_law_some"] 2 spOne := by
  obtain ⟨f, fd, F, g⟩ := h
  refine ⟨f, fd, F.ok (k := 1) scOne (fun vs H Q E h => ?_) (fun cdv A outer s H vs Q E hr h => ?_), g, F.kp, F.binds fun _ _ _ _ _ _ us hl => match us, hl with | [_, _], _ => rfl⟩
  · obtain ⟨D, C, R, l, b, xs, rfl, _⟩ := h
    rfl
  · obtain ⟨D, C, R, l, b, xs, rfl, el, l1, l2, nD, nR, dk, hb, q⟩ := h
    refine ⟨_, pss_one (ps_ret (pe_ix ix_list (pv 1) (pe_can CN hr (by rfl) (pa_cons (pv 0) (pa_cons (pe_callB call_len_seq (by rfl) B.len_ PySem.boot_len (pa_cons (pv 1) pa_nil)) pa_nil))) (fun _ _ => rfl))), ?_⟩
    refine ⟨.ref l, rfl, .ref D, rfl, .ref l, rfl, l, xs, rfl, .inl (SqL.of el), D, C, R, b, _, rfl, by omega, by omega, dk, hb, fun H' k kp dk' k0 k1 => ?_⟩
    have g1 : xs[k.toNat]? = some (xs[k.toNat]'(by omega)) := List.getElem?_eq_getElem (by omega)
    refine ⟨l, xs, k, _, rfl, rfl, SqL.of (kp l _ el (notDR nD nR)), atI_of k0 g1, q H' k.toNat _ kp dk' g1⟩
def spEdge : Sp := fun vs H Q _ => ∃ (D C R : Addr) (b m : Int), vs = [.ref D, .int m] ∧ 1 ≤ m ∧ m ≤ 10000000000000 ∧ Deck H D C R b ∧ b ≤ 900000000 ∧
  ∀ H' k, Keep [D, R] H H' → Deck H' D C R (b + 3) → 0 ≤ k → k < m → Q (.int k) H'
theorem ok_edge (h : Has K mg "_law_edge" sEdge) (B : Blt mg) (CN : Can P w K mg base "_law_next" ["_law_deck_here", "_law_many"] 1 spNext) (CO : Can P w K mg base "_law_one" ["_law_deck_here", "_law_some"] 2 spOne) :
    Can P w K mg base "_law_edge" ["_law_deck_here", "_law_many"] 3 spEdge := by
  obtain ⟨f, fd, F, g⟩ := h
  refine ⟨f, fd, F.ok (k := 2) scEdge (fun vs H Q E h => ?_) (fun cdv A outer s H vs Q E hr h => ?_), g, F.kp, F.binds fun _ _ _ _ _ _ us hl => match us, hl with | [_, _], _ => rfl⟩
  · obtain ⟨D, C, R, b, m, rfl, _⟩ := h
    rfl
  · obtain ⟨D, C, R, b, m, rfl, m1, m2, dk, hb, q⟩ := h
    refine ⟨_, pss_one (ps_ret (pe_can CO hr (by rfl) (pa_cons (pv 0) (pa_cons (pe_lst (pa_cons pe_int (pa_cons (pe_op op_sub (pv 1) pe_int) (pa_cons (pe_can CN (hr.mono (by decide)) (by rfl) (pa_cons (pv 0) (pa_cons (pv 1) pa_nil)))
      (pa_cons (pe_can CN (hr.mono (by decide)) (by rfl) (pa_cons (pv 0) (pa_cons (pe_callB (call_min2 rfl) (by rfl) B.min_ boot_min (pa_cons (pv 1) (pa_cons pe_int pa_nil))) pa_nil))) pa_nil))))) pa_nil)))), ?_⟩
    refine ⟨.ref D, rfl, .int m, rfl, m, 1, rfl, rfl, .ref D, rfl, .int m, rfl, D, C, R, b, m, rfl, m1, m2, dk, by omega, fun H1 k1 kp1 dk1 a1 a2 => ?_⟩
    refine ⟨.ref D, rfl, .int m, rfl, m, 4, rfl, D, C, R, b + 1, _, rfl, by split <;> omega, by split <;> omega, dk1, by omega, fun H2 k2 kp2 dk2 a3 a4 => ?_⟩
    refine ⟨show 4 ≤ sizeLine by decide, fun l nl => ?_⟩
    obtain ⟨n1, n2, n3⟩ := dk2.ne nl
    refine ⟨D, C, R, l, b + 1 + 1, _, rfl, upd_same, show 1 ≤ 4 by decide, show 4 ≤ 1000 by decide, n1, n3, dk2.new nl, by omega, fun H3 i x kp3 dk3 hx => ?_⟩
    have kp : Keep [D, R] H H3 := kp1.trans (kp2.trans ((Keep.new nl).trans kp3))
    have dk3' : Deck H3 D C R (b + 3) := dk3.mono (by omega)
    match i, hx with
    | 0, hx => cases hx; exact q H3 0 kp dk3' (by decide) (by omega)
    | 1, hx => cases hx; exact q H3 (m - 1) kp dk3' (by omega) (by omega)
    | 2, hx => cases hx; exact q H3 k1 kp dk3' a1 a2
    | 3, hx =>
      cases hx
      refine q H3 k2 kp dk3' a3 ?_
      revert a4; split <;> omega
    | i + 4, hx => exact nomatch hx
def spSpots : Sp := fun vs H Q _ => ∃ (D C R : Addr) (b lo hi m : Int), vs = [.ref D, .int lo, .int hi, .int m] ∧ hi - lo + 1 ≤ 10000000000000 ∧ 0 ≤ m ∧ m ≤ 10 ∧ Deck H D C R b ∧ b ≤ 800000000 ∧
  ∀ H' (p : Addr) (ns : List Int), Keep [D, R] H H' → Deck H' D C R (b + 3 * m) → H p = none → H' p = some (.lst (ns.map V.int)) → ns.Pairwise (· < ·) → (∀ n ∈ ns, lo ≤ n ∧ n ≤ hi) → (ns.length : Int) ≤ m → Q (.ref p) H'
theorem ok_spots (h : Has K mg "_law_spots" sSpots) (B : Blt mg) (CE : Can P w K mg base "_law_edge" ["_law_deck_here", "_law_many"] 3 spEdge) : Can P w K mg base "_law_spots" ["_law_deck_here", "_law_low", "_law_high", "_law_many"] 4 spSpots := by
  obtain ⟨f, fd, F, g⟩ := h
  refine ⟨f, fd, F.ok (k := 3) scSpots (fun vs H Q E h => ?_) (fun cdv A outer s H vs Q E hr h => ?_), g, F.kp, F.binds fun _ _ _ _ _ _ us hl => match us, hl with | [_, _, _, _], _ => rfl⟩
  · obtain ⟨D, C, R, b, lo, hi, m, rfl, _⟩ := h
    rfl
  · obtain ⟨D, C, R, b, lo, hi, m, rfl, hh, m0, m1, dk, hb, q⟩ := h
    refine ⟨_, pss_cons (ps_if (pt_cmpR op_lt (pv 2) (pv 1) (nomark _)) (pss_one (ps_ret (pe_lst pa_nil))) pss_nil)
      (pss_one (ps_ret (pe_callB (cr_sortedSet rfl) (by rfl) B.sorted_ boot_sorted (pa_cons (pe_callTy (cr_setL rfl) (by rfl) B.set_ boot_set (pa_cons
        (pe_lc (own := [("_law_k", 4)]) (g := gName 4) (tt := tYes) rfl scSpots.nd (pi_range1 (by rfl) B.range_ (pa_cons (pv 3) pa_nil)) (blkOk_by (N := ["_law_deck_here", "_law_low", "_law_high", "_law_many", "_law_k"]) (sc := defScope sSpots) (by decide +kernel))
          (fun _ _ _ _ _ => pg_name (i := 4) scSpots.nd rfl (Or.inl rfl)) (fun _ _ _ _ _ => pts_nil) (fun _ _ _ _ _ => pe_op op_add (pv 1) (pe_can CE hr (by rfl) (pa_cons (pv 0) (pa_cons (pe_op op_add (pe_op op_sub (pv 2) (pv 1)) pe_int) pa_nil))))) pa_nil)) pa_nil)))), ?_⟩
    refine ⟨.int hi, rfl, .int lo, rfl, hi, lo, rfl, rfl, _, rfl, ite2 (fun e => ?_) (fun e => ?_)⟩
    · refine ⟨show 0 ≤ sizeLine by decide, fun p np => ?_⟩
      exact q _ p [] (Keep.new np) ((dk.new np).mono (by omega)) np upd_same List.Pairwise.nil (fun _ z => absurd z List.not_mem_nil) (by show ((0 : Nat) : Int) ≤ m; omega)
    · have hle : lo ≤ hi := by
        have h2 : ¬ (hi < lo) := fun z => e (decide_eq_true z)
        omega
      refine ⟨.int m, rfl, m, rfl, by omega, by omega, fun L nL => ?_⟩
      refine lc_range (lo := 0) (n := m.toNat) (fun i G => Keep [D, R] H G ∧ Deck G D C R (b + 3 * i) ∧ L ≠ D ∧ L ≠ R ∧ ∃ cs : List Int, cs.length = i ∧ (∀ n ∈ cs, lo ≤ n ∧ n ≤ hi) ∧ G L = some (.lst (cs.map V.int)))
        ⟨Keep.new nL, (dk.new nL).mono (by omega), (dk.ne nL).1, (dk.ne nL).2.2, [], rfl, fun _ z => absurd z List.not_mem_nil, upd_same⟩ (fun i G hi' p => ?_) (fun G p => ?_)
      · obtain ⟨k1, d1, n1, n2, cs, l1, c1, e1⟩ := p
        refine ⟨rfl, .int lo, rfl, .ref D, rfl, .int hi, rfl, .int lo, rfl, hi, lo, rfl, rfl, _, 1, rfl, rfl, D, C, R, _, _, rfl, by omega, hh, d1, by omega, fun G2 k kp dk2 a1 a2 => ?_⟩
        have e2 := kp L _ e1 (notDR n1 n2)
        refine ⟨lo, k, rfl, rfl, cs.map V.int, e2, by rw [List.length_map, l1]; exact small1000 (by omega), ?_, ?_, n1, n2, cs ++ [lo + k], by rw [List.length_append, l1]; rfl, ?_, by rw [upd_same, List.map_append]; rfl⟩
        · exact (k1.trans kp).upd nL
        · have nLC : L ≠ C := by
            obtain ⟨oc, ec⟩ := dk.at.2.1
            exact (ne_of_none ec nL).symm
          exact (dk2.other n1 nLC n2).mono (by have : ((i + 1 : Nat) : Int) = (i : Int) + 1 := by omega
                                               omega)
        · intro z hz
          rcases List.mem_append.mp hz with hz | hz
          · exact c1 z hz
          · rw [List.mem_singleton.mp hz]; omega
      · obtain ⟨k1, d1, n1, n2, cs, l1, c1, e1⟩ := p
        refine ⟨L, cs, rfl, SqL.of e1, by omega, fun sa c na hc => ?_⟩
        refine ⟨sa, _, c, rfl, upd_same, by omega, fun ns p pw mem ln np => ?_⟩
        have k2 : Keep [D, R] H (upd G sa (SetO w sa (fun j => decide (j ∈ cs)) c)) := k1.trans (Keep.new na)
        have d2 : Deck (upd G sa (SetO w sa (fun j => decide (j ∈ cs)) c)) D C R (b + 3 * (m.toNat : Nat)) := d1.new na
        refine q _ p ns (k2.trans (Keep.new np)) ((d2.new np).mono (by omega)) (k2.free d2 np) upd_same pw (fun n hn => ?_) (by omega)
        exact c1 n (of_decide_eq_true ((mem n).mp hn))
def spLength : Sp := fun vs H Q _ => ∃ (D C R : Addr) (b far : Int), vs = [.ref D, .int far] ∧ Deck H D C R b ∧ b ≤ 800000000 ∧
  ∀ H' k, Keep [D, R] H H' → Deck H' D C R (b + 6) → 1 ≤ k → k ≤ 1000000000000 → Q (.int k) H'
theorem ok_length (h : Has K mg "_law_length" sLength) (CN : Can P w K mg base "_law_next" ["_law_deck_here", "_law_many"] 1 spNext) (CO : Can P w K mg base "_law_one" ["_law_deck_here", "_law_some"] 2 spOne) :
    Can P w K mg base "_law_length" ["_law_deck_here", "_law_far"] 3 spLength := by
  obtain ⟨f, fd, F, g⟩ := h
  refine ⟨f, fd, F.ok (k := 2) scLength (fun vs H Q E h => ?_) (fun cdv A outer s H vs Q E hr h => ?_), g, F.kp, F.binds fun _ _ _ _ _ _ us hl => match us, hl with | [_, _], _ => rfl⟩
  · obtain ⟨D, C, R, b, far, rfl, _⟩ := h
    rfl
  · obtain ⟨D, C, R, b, far, rfl, dk, hb, q⟩ := h
    refine ⟨_, pss_cons (ps_set (i := 2) scLength.nd rfl (.inl rfl) (pe_lst (pa_cons pe_int (pa_cons (pe_op op_add pe_int (pe_can CN (hr.mono (by decide)) (by rfl) (pa_cons (pv 0) (pa_cons pe_int pa_nil)))) (pa_cons (pe_op op_add pe_int (pe_can CN (hr.mono (by decide)) (by rfl) (pa_cons (pv 0) (pa_cons pe_int pa_nil)))) pa_nil)))))
      (pss_cons (ps_if (pt_cmpR op_gt (pv 1) pe_int (nomark _))
        (pss_one (ps_set (i := 2) scLength.nd rfl (.inl rfl) (pe_op op_cat (pv 2) (pe_lst (pa_cons (pe_op op_add pe_int (pe_can CN (hr.mono (by decide)) (by rfl) (pa_cons (pv 0) (pa_cons pe_int pa_nil))))
          (pa_cons (pe_op op_sub (pe_op op_pow pe_int pe_int) (pe_can CN (hr.mono (by decide)) (by rfl) (pa_cons (pv 0) (pa_cons pe_int pa_nil))))
          (pa_cons (pe_op op_add pe_int (pe_can CN (hr.mono (by decide)) (by rfl) (pa_cons (pv 0) (pa_cons (pe_op op_pow pe_int pe_int) pa_nil)))) pa_nil)))))))
        pss_nil)
      (pss_one (ps_ret (pe_can CO hr (by rfl) (pa_cons (pv 0) (pa_cons (pv 2) pa_nil)))))), ?_⟩
    refine ⟨.ref D, rfl, D, C, R, b, 3, rfl, by decide, by decide, dk, by omega, fun H1 k1 kp1 dk1 a1 a2 => ?_⟩
    refine ⟨1, k1, rfl, rfl, .ref D, rfl, D, C, R, b + 1, 3, rfl, by decide, by decide, dk1, by omega, fun H2 k2 kp2 dk2 a3 a4 => ?_⟩
    refine ⟨2, k2, rfl, rfl, show 3 ≤ sizeLine by decide, fun l nl => ?_⟩
    obtain ⟨n1, n2, n3⟩ := dk2.ne nl
    have kp3 : Keep [D, R] H (upd H2 l (.lst [.int 1, .int (1 + k1), .int (2 + k2)])) := kp1.trans (kp2.trans (Keep.new nl))
    have dk3 : Deck (upd H2 l (.lst [.int 1, .int (1 + k1), .int (2 + k2)])) D C R (b + 1 + 1) := dk2.new nl
    refine ⟨.int far, rfl, far, 0, rfl, rfl, _, rfl, ite2 (fun e => ?_) (fun e => ?_)⟩
    · refine ⟨.ref l, rfl, .ref D, rfl, D, C, R, _, 12, rfl, by decide, by decide, dk3, by omega, fun H4 k4 kp4 dk4 a5 a6 => ?_⟩
      refine ⟨2, k4, rfl, rfl, 10, 12, rfl, rfl, ⟨by decide, by decide, by decide⟩, .ref D, rfl, D, C, R, _, 3, rfl, by decide, by decide, dk4, by omega, fun H5 k5 kp5 dk5 a7 a8 => ?_⟩
      refine ⟨_, k5, rfl, rfl, .ref D, rfl, 10, 12, rfl, rfl, ⟨by decide, by decide, by decide⟩, D, C, R, _, _, rfl, by decide, by decide, dk5, by omega, fun H6 k6 kp6 dk6 a9 a10 => ?_⟩
      refine ⟨1, k6, rfl, rfl, show 3 ≤ sizeLine by decide, fun l2 nl2 => ?_⟩
      have kp7 := kp4.trans (kp5.trans kp6)
      have el6 := kp7 l _ upd_same (notDR n1 n3)
      refine ⟨l, l2, [.int 1, .int (1 + k1), .int (2 + k2)], _, rfl, rfl, by rw [upd_ne (ne_of_none el6 nl2)]; exact el6, upd_same, show 6 ≤ sizeLine by decide, fun l3 nl3 => ?_⟩
      have kp8 := kp3.trans (kp7.trans (Keep.new (av := [D, R]) (o := .lst [.int (2 + k4), .int ((10 : Int) ^ (12 : Int).toNat - k5), .int (1 + k6)]) nl2))
      have dk8 := dk6.new (o := .lst [.int (2 + k4), .int ((10 : Int) ^ (12 : Int).toNat - k5), .int (1 + k6)]) nl2
      obtain ⟨m1, m2, m3⟩ := dk8.ne nl3
      refine ⟨.ref D, rfl, .ref l3, rfl, D, C, R, l3, _, _, rfl, upd_same, show 1 ≤ 6 by decide, show 6 ≤ 1000 by decide, m1, m3, dk8.new nl3, by omega, fun H9 i x kp9 dk9 hx => ?_⟩
      have kp : Keep [D, R] H H9 := kp8.trans ((Keep.new nl3).trans kp9)
      have dkE : Deck H9 D C R (b + 6) := dk9.mono (by omega)
      have t12 : ((10 : Int) ^ (12 : Int).toNat) = 1000000000000 := by decide
      rw [t12] at hx a10
      match i, hx with
      | 0, hx => cases hx; exact q H9 _ kp dkE (by decide) (by decide)
      | 1, hx => cases hx; exact q H9 _ kp dkE (by omega) (by omega)
      | 2, hx => cases hx; exact q H9 _ kp dkE (by omega) (by omega)
      | 3, hx => cases hx; exact q H9 _ kp dkE (by omega) (by omega)
      | 4, hx => cases hx; exact q H9 _ kp dkE (by omega) (by omega)
      | 5, hx => cases hx; exact q H9 _ kp dkE (by omega) (by omega)
      | i + 6, hx => exact nomatch hx
    · refine ⟨.ref D, rfl, .ref l, rfl, D, C, R, l, _, _, rfl, upd_same, show 1 ≤ 3 by decide, show 3 ≤ 1000 by decide, n1, n3, dk3, by omega, fun H9 i x kp9 dk9 hx => ?_⟩
      have kp : Keep [D, R] H H9 := kp3.trans kp9
      have dkE : Deck H9 D C R (b + 6) := dk9.mono (by omega)
      match i, hx with
      | 0, hx => cases hx; exact q H9 _ kp dkE (by decide) (by decide)
      | 1, hx => cases hx; exact q H9 _ kp dkE (by omega) (by omega)
      | 2, hx => cases hx; exact q H9 _ kp dkE (by omega) (by omega)
      | i + 3, hx => exact nomatch hx
end
end Rw

namespace Rw
open PySem PySem.Spec PyProof.Rows L2
/-! addresses that are tracked -/
def Tr (av : List Addr) (H : Hp) : Prop := ∀ a ∈ av, ∃ o, H a = some o
theorem Tr.not {av : List Addr} {H : Hp} {p : Addr} (t : Tr av H) (n : H p = none) : p ∉ av := fun m => by
  obtain ⟨o, e⟩ := t p m
  rw [n] at e; cases e
theorem Tr.upd {av : List Addr} {H : Hp} {p : Addr} {o : HO} (t : Tr av H) : Tr av (upd H p o) := fun a m => by
  by_cases e : a = p
  · subst e; exact ⟨o, upd_same⟩
  · obtain ⟨u, z⟩ := t a m
    exact ⟨u, by rw [upd_ne e]; exact z⟩
theorem Tr.cons {av : List Addr} {H : Hp} {p : Addr} {o : HO} (t : Tr av H) (e : H p = some o) : Tr (p :: av) H := fun a m => by
  rcases List.mem_cons.mp m with m | m
  · rw [m]; exact ⟨o, e⟩
  · exact t a m
theorem Tr.keep {av : List Addr} {H H' : Hp} {D C R : Addr} {b : Int} (t : Tr av H) (k : Keep [D, R] H H') (d : Deck H' D C R b) : Tr av H' := fun a m => by
  cases e : H' a with
  | some o => exact ⟨o, rfl⟩
  | none =>
    obtain ⟨o, z⟩ := t a m
    rw [k.free d e] at z; cases z
theorem ix_listK {X : Cx} {K : PySem.W.Frag} (h : X.K = K) : IxR X (rIxL K) := by subst h; exact ix_list
theorem pick4 (a b c d : Int) (n : Nat) (h : n < 4) : ∃ j, [V.int a, V.int b, V.int c, V.int d][n]? = some (.int j) ∧ (j = a ∨ j = b ∨ j = c ∨ j = d) := by
  match n, h with
  | 0, _ => exact ⟨a, rfl, .inl rfl⟩
  | 1, _ => exact ⟨b, rfl, .inr (.inl rfl)⟩
  | 2, _ => exact ⟨c, rfl, .inr (.inr (.inl rfl))⟩
  | 3, _ => exact ⟨d, rfl, .inr (.inr (.inr rfl))⟩
/-! ### a pipe, by data -/
def prD (p : Int × Int) : PyData := .tuple [.int p.1, .int p.2]
def pipeD (x y l : Int) (na fl : List (Int × Int)) : PyData := .tuple [.int x, .int y, .int l, .tuple (na.map prD), .tuple (fl.map prD)]
structure Fit (l : Int) (na fl : List (Int × Int)) : Prop where
  l1 : 1 ≤ l
  l2 : l ≤ 1000000000000
  nup : (na.map (·.1)).Pairwise (· < ·)
  nin : ∀ p ∈ na, 1 ≤ p.1 ∧ p.1 ≤ l - 1 ∧ 1 ≤ p.2 ∧ p.2 ≤ 1000000
  fup : (fl.map (·.1)).Pairwise (· < ·)
  fin : ∀ p ∈ fl, 0 ≤ p.1 ∧ p.1 ≤ l - 1 ∧ (p.2 = 1 ∨ p.2 = -1)
  nle : na.length ≤ 3
  fle : fl.length ≤ 3
section
variable {P : Program} {w : World} {K : PySem.W.Frag} {mg : Str → Option Value} {base : Heap}
abbrev sPipe : Stmt := topS 14
abbrev nPipe : List Str := ["_law_deck_here", "_law_one_here", "_law_other", "_law_left", "_law_far", "_law_length_here", "_law_spots_here", "_law_hung", "_law_narrows", "_law_at"]
theorem scPipe : FnScope nPipe ["_law_deck_here", "_law_one_here", "_law_other", "_law_left", "_law_far"] (defScope sPipe) := ⟨rfl, rfl, rfl, by decide +kernel, rfl, by decide +kernel, by decide +kernel⟩
def spPipe : Sp := fun vs H Q _ => ∃ (D C R L : Addr) (b x y l0 l1 far : Int) (av : List Addr), vs = [.ref D, .int x, .int y, .ref L, .int far] ∧ H L = some (.lst [.int l0, .int l1]) ∧ 0 ≤ l0 ∧ 0 ≤ l1 ∧ l0 ≤ 100 ∧ l1 ≤ 100 ∧
  L ≠ D ∧ L ≠ C ∧ L ≠ R ∧ (far = 0 ∨ far = 1) ∧ Deck H D C R b ∧ b ≤ 700000000 ∧ Tr av H ∧ D ∈ av ∧ R ∈ av ∧ L ∈ av ∧
  ∀ H' (p : Addr) (l : Int) (na fl : List (Int × Int)), Keep [D, R, L] H H' → Deck H' D C R (b + 60) → H' L = some (.lst [.int (l0 - na.length), .int (l1 - fl.length)]) → (na.length : Int) ≤ l0 → (fl.length : Int) ≤ l1 →
    Fit l na fl → Dt av H' (.ref p) (pipeD x y l na fl) → Tr av H' → Q (.ref p) H'
theorem ok_pipe (h : Has K mg "_law_pipe" sPipe) (B : Blt mg) (CN : Can P w K mg base "_law_next" ["_law_deck_here", "_law_many"] 1 spNext) (CE : Can P w K mg base "_law_edge" ["_law_deck_here", "_law_many"] 3 spEdge)
    (CS : Can P w K mg base "_law_spots" ["_law_deck_here", "_law_low", "_law_high", "_law_many"] 4 spSpots) (CL : Can P w K mg base "_law_length" ["_law_deck_here", "_law_far"] 3 spLength) :
    Can P w K mg base "_law_pipe" ["_law_deck_here", "_law_one_here", "_law_other", "_law_left", "_law_far"] 5 spPipe := by
  obtain ⟨f, fd, F, g⟩ := h
  refine ⟨f, fd, F.ok (k := 4) scPipe (fun vs H Q E h => ?_) (fun cdv A outer s H vs Q E hr h => ?_), g, F.kp, F.binds fun _ _ _ _ _ _ us hl => match us, hl with | [_, _, _, _, _], _ => rfl⟩
  · obtain ⟨D, C, R, L, b, x, y, l0, l1, far, av, rfl, _⟩ := h
    rfl
  · obtain ⟨D, C, R, L, b, x, y, l0, l1, far, av, rfl, eL, p0, p1, p2, p3, nLD, nLC, nLR, hf, dk, hb, tr, mD, mR, mL, q⟩ := h
    refine ⟨_, pss_cons (ps_set (i := 5) scPipe.nd rfl (.inl rfl) (pe_can CL (hr.mono (by decide)) (by rfl) (pa_cons (pv 0) (pa_cons (pv 4) pa_nil))))
      (pss_cons (ps_set (i := 6) scPipe.nd rfl (.inl rfl) (pe_can CS hr (by rfl) (pa_cons (pv 0) (pa_cons pe_int (pa_cons (pe_op op_sub (pv 5) pe_int) (pa_cons (pe_callB (call_min2 rfl) (by rfl) B.min_ boot_min (pa_cons (pe_ix ix_list (pv 3) pe_int (fun _ _ => rfl)) (pa_cons
          (pe_ix ix_list (pe_lst (pa_cons pe_int (pa_cons pe_int (pa_cons pe_int (pa_cons pe_int pa_nil))))) (pe_can CN (hr.mono (by decide)) (by rfl) (pa_cons (pv 0) (pa_cons pe_int pa_nil))) (fun _ _ => rfl)) pa_nil))) pa_nil))))))
      (pss_cons (ps_set (i := 7) scPipe.nd rfl (.inl rfl) (pe_can CS hr (by rfl) (pa_cons (pv 0) (pa_cons pe_int (pa_cons (pe_op op_sub (pv 5) pe_int) (pa_cons (pe_callB (call_min2 rfl) (by rfl) B.min_ boot_min (pa_cons (pe_ix ix_list (pv 3) pe_int (fun _ _ => rfl)) (pa_cons
          (pe_ix ix_list (pe_lst (pa_cons pe_int (pa_cons pe_int (pa_cons pe_int (pa_cons pe_int pa_nil))))) (pe_can CN (hr.mono (by decide)) (by rfl) (pa_cons (pv 0) (pa_cons pe_int pa_nil))) (fun _ _ => rfl)) pa_nil))) pa_nil))))))
      (pss_cons (ps_asg (pe_op op_sub (pe_ix ix_list (pv 3) pe_int (fun _ _ => rfl)) (pe_callB call_len_seq (by rfl) B.len_ PySem.boot_len (pa_cons (pv 6) pa_nil))) (pg_sub (pv 3) pe_int set_list))
      (pss_cons (ps_asg (pe_op op_sub (pe_ix ix_list (pv 3) pe_int (fun _ _ => rfl)) (pe_callB call_len_seq (by rfl) B.len_ PySem.boot_len (pa_cons (pv 7) pa_nil))) (pg_sub (pv 3) pe_int set_list))
      (pss_cons (ps_set (i := 8) scPipe.nd rfl (.inl rfl) (pe_callTy call_tuple_of (by rfl) B.tuple_ boot_tuple (pa_cons
        (pe_lc (own := [("_law_at", 9)]) (g := gName 9) (tt := tYes) rfl scPipe.nd (pi_list (pv 6)) (blkOk_by (N := nPipe) (sc := defScope sPipe) (by decide +kernel))
          (fun _ _ _ _ _ => pg_name (i := 9) scPipe.nd rfl (Or.inl rfl)) (fun _ _ _ _ _ => pts_nil) (fun _ _ _ _ _ => pe_tup (pa_cons (pv 9) (pa_cons (pe_op op_add pe_int (pe_can CE (hr.mono (by decide)) (by rfl) (pa_cons (pv 0) (pa_cons
            (pe_ix (ix_listK (K := K) rfl) (pe_lst (pa_cons pe_int (pa_cons (pe_op op_pow pe_int pe_int) pa_nil))) (pv 4) (fun _ _ => rfl)) pa_nil)))) pa_nil)))) pa_nil)))
      (pss_one (ps_ret (pe_tup (pa_cons (pv 1) (pa_cons (pv 2) (pa_cons (pv 5) (pa_cons (pv 8) (pa_cons (pe_callTy call_tuple_of (by rfl) B.tuple_ boot_tuple (pa_cons
        (pe_lc (own := [("_law_at", 9)]) (g := gName 9) (tt := tYes) rfl scPipe.nd (pi_list (pv 7)) (blkOk_by (N := nPipe) (sc := defScope sPipe) (by decide +kernel))
          (fun _ _ _ _ _ => pg_name (i := 9) scPipe.nd rfl (Or.inl rfl)) (fun _ _ _ _ _ => pts_nil) (fun _ _ _ _ _ => pe_tup (pa_cons (pv 9) (pa_cons (pe_op op_sub pe_int (pe_op op_mul pe_int (pe_can CN (hr.mono (by decide)) (by rfl) (pa_cons (pv 0) (pa_cons pe_int pa_nil))))) pa_nil)))) pa_nil)) pa_nil))))))))))))), ?_⟩
    -- the length
    refine ⟨.ref D, rfl, .int far, rfl, D, C, R, b, far, rfl, dk, by omega, fun H1 l kp1 dk1 hl1 hl2 => ?_⟩
    have eL1 := kp1 L _ eL (notDR nLD nLR)
    -- the narrow places
    refine ⟨.ref D, rfl, .int l, rfl, l, 1, rfl, rfl, .ref L, rfl, L, _, 0, .int l0, rfl, rfl, SqL.of eL1, atI_nat (j := 0) rfl, show 4 ≤ sizeLine by decide, fun a4 n4 => ?_⟩
    refine ⟨.ref D, rfl, D, C, R, b + 6, 4, rfl, by decide, by decide, dk1.new n4, by omega, fun H2 k2 kp2 dk2 a1 a2 => ?_⟩
    obtain ⟨n41, n42, n43⟩ := dk1.ne n4
    obtain ⟨j2, g2, hj2⟩ := pick4 0 0 1 3 k2.toNat (by omega)
    refine ⟨a4, _, k2, .int j2, rfl, rfl, SqL.of (kp2 a4 _ upd_same (notDR n41 n43)), atI_of a1 g2, l0, j2, rfl, ?_⟩
    have kA : Keep [D, R] H H2 := kp1.trans ((Keep.new n4).trans kp2)
    have eL2 := kA L _ eL (notDR nLD nLR)
    refine ⟨D, C, R, b + 6 + 1, 1, l - 1, _, rfl, by omega, by split <;> omega, by split <;> omega, dk2, by omega, fun H3 sa ns kp3 dk3 nsa esa pw1 in1 ln1 => ?_⟩
    have dk3' : Deck H3 D C R (b + 17) := dk3.mono (by revert ln1; split <;> omega)
    have ln1a : ns.length ≤ 3 := by revert ln1; split <;> omega
    have ln1b : (ns.length : Int) ≤ l0 := by revert ln1; split <;> omega
    have kB : Keep [D, R] H H3 := kA.trans kp3
    have eL3 := kB L _ eL (notDR nLD nLR)
    -- the flaps
    refine ⟨.ref D, rfl, .int l, rfl, l, 1, rfl, rfl, .ref L, rfl, L, _, 1, .int l1, rfl, rfl, SqL.of eL3, atI_nat (j := 1) rfl, show 4 ≤ sizeLine by decide, fun a5 n5 => ?_⟩
    refine ⟨.ref D, rfl, D, C, R, b + 17, 4, rfl, by decide, by decide, dk3'.new n5, by omega, fun H4 k4 kp4 dk4 a3 a4' => ?_⟩
    obtain ⟨n51, n52, n53⟩ := dk3'.ne n5
    obtain ⟨j4, g4, hj4⟩ := pick4 0 0 1 2 k4.toNat (by omega)
    refine ⟨a5, _, k4, .int j4, rfl, rfl, SqL.of (kp4 a5 _ upd_same (notDR n51 n53)), atI_of a3 g4, l1, j4, rfl, ?_⟩
    have kC : Keep [D, R] H3 H4 := (Keep.new n5).trans kp4
    refine ⟨D, C, R, b + 17 + 1, 0, l - 1, _, rfl, by omega, by split <;> omega, by split <;> omega, dk4, by omega, fun H5 ha ms kp5 dk5 nha eha pw2 in2 ln2 => ?_⟩
    have dk5' : Deck H5 D C R (b + 24) := dk5.mono (by revert ln2; split <;> omega)
    have ln2a : ms.length ≤ 2 := by revert ln2; split <;> omega
    have ln2b : (ms.length : Int) ≤ l1 := by revert ln2; split <;> omega
    have kD : Keep [D, R] H3 H5 := kC.trans kp5
    have kE : Keep [D, R] H H5 := kB.trans kD
    have eL5 := kE L _ eL (notDR nLD nLR)
    have nsD : sa ≠ D ∧ sa ≠ R ∧ sa ≠ L ∧ sa ≠ C := by
      have z := kA.free dk2 nsa
      obtain ⟨z1, z2, z3⟩ := dk2.ne nsa
      exact ⟨z1, z3, (ne_of_none eL2 nsa).symm, z2⟩
    have esa5 := kD sa _ esa (notDR nsD.1 nsD.2.1)
    have eL4 := kC L _ eL3 (notDR nLD nLR)
    have nhD : ha ≠ D ∧ ha ≠ R ∧ ha ≠ L ∧ ha ≠ C := by
      obtain ⟨z1, z2, z3⟩ := dk4.ne nha
      exact ⟨z1, z3, (ne_of_none eL4 nha).symm, z2⟩
    -- what is left
    refine ⟨.ref L, rfl, L, _, 0, .int l0, rfl, rfl, SqL.of eL5, atI_nat (j := 0) rfl, .ref sa, rfl, sa, _, rfl, .inl (SqL.of esa5), l0, _, rfl, rfl, .ref L, rfl, L, _, 0, 0, rfl, rfl, eL5, rfl, ?_⟩
    rw [List.length_map]
    have esa6 : (upd H5 L (.lst [.int (l0 - (ns.length : Int)), .int l1])) sa = some (.lst (ns.map V.int)) := by rw [upd_ne nsD.2.2.1]; exact esa5
    have eha6 : (upd H5 L (.lst [.int (l0 - (ns.length : Int)), .int l1])) ha = some (.lst (ms.map V.int)) := by rw [upd_ne nhD.2.2.1]; exact eha
    refine ⟨.ref L, rfl, L, [.int (l0 - (ns.length : Int)), .int l1], 1, .int l1, rfl, rfl, SqL.of upd_same, atI_nat (j := 1) rfl, .ref ha, rfl, ha, _, rfl, .inl (SqL.of eha6), l1, _, rfl, rfl, .ref L, rfl, L, [.int (l0 - (ns.length : Int)), .int l1], 1, 1, rfl, rfl, upd_same, rfl, ?_⟩
    rw [List.length_map, upd_upd]
    show (_ : Prop)
    generalize hG : upd H5 L (.lst ([V.int (l0 - (ns.length : Int)), V.int l1].set 1 (V.int (l1 - (ms.length : Int))))) = G
    have eG : upd H5 L (.lst [.int (l0 - (ns.length : Int)), .int (l1 - (ms.length : Int))]) = G := hG
    have esaG : G sa = some (.lst (ns.map V.int)) := by rw [← eG, upd_ne nsD.2.2.1]; exact esa5
    have ehaG : G ha = some (.lst (ms.map V.int)) := by rw [← eG, upd_ne nhD.2.2.1]; exact eha
    have eLG : G L = some (.lst [.int (l0 - (ns.length : Int)), .int (l1 - (ms.length : Int))]) := by rw [← eG]; exact upd_same
    have dkG : Deck G D C R (b + 24) := by rw [← eG]; exact dk5'.other nLD nLC nLR
    have kG : Keep [D, R, L] H G := by
      rw [← eG]; exact (kE.mono (by intro z hz; simp only [List.mem_cons, List.not_mem_nil, or_false] at hz ⊢; rcases hz with hz | hz <;> simp [hz])).trans (Keep.put (by simp))
    have trG : Tr av G := by rw [← eG]; exact (tr.keep kE dk5').upd
    -- narrows
    refine ⟨.ref sa, rfl, sa, rfl, ⟨_, SqL.of esaG⟩, fun W nW => ?_⟩
    have nWD := dkG.ne nW
    refine lc_list (K := K) (a := sa) (xs := ns.map V.int)
      (fun i J => Keep [D, R] G J ∧ Deck J D C R (b + 24 + 3 * i) ∧ ∃ (na : List (Int × Int)) (us : List V), na.length = i ∧ na.map (·.1) = ns.take i ∧ (∀ p ∈ na, 1 ≤ p.2 ∧ p.2 ≤ 1000000) ∧ J W = some (.lst us) ∧ Dts (W :: av) J us (na.map prD))
      ⟨Keep.new nW, (dkG.new nW).mono (by omega), [], [], rfl, rfl, fun _ z => absurd z List.not_mem_nil, upd_same, .nil⟩ (fun i J _ p => SqL.of (p.1 sa _ esaG (notDR nsD.1 nsD.2.1))) (fun i v J hx p => ?_) (fun J p => ?_)
    · obtain ⟨k1, d1, na, us, e1, e2, e3, e4, e5⟩ := p
      rw [List.getElem?_map] at hx
      obtain ⟨n, hn, rfl⟩ := Option.map_eq_some_iff.mp hx
      have hi : i < ns.length := (List.getElem?_eq_some_iff.mp hn).1
      have trJ : Tr (W :: av) J := (trG.keep k1 d1).cons e4
      refine ⟨rfl, .int n, rfl, .ref D, rfl, 10, 6, rfl, rfl, ⟨by decide, by decide, by decide⟩, show 2 ≤ sizeLine by decide, fun a6 n6 => ?_⟩
      obtain ⟨n61, n62, n63⟩ := d1.ne n6
      obtain ⟨m, gm, hm1, hm2⟩ : ∃ m : Int, atI [V.int 3, V.int ((10 : Int) ^ (6 : Int).toNat)] far = some (.int m) ∧ 1 ≤ m ∧ m ≤ 1000000 := by
        rcases hf with rfl | rfl
        · exact ⟨3, atI_nat (j := 0) rfl, by decide, by decide⟩
        · exact ⟨(10 : Int) ^ (6 : Int).toNat, atI_nat (j := 1) rfl, by decide, by decide⟩
      refine ⟨.int far, rfl, a6, _, far, .int m, rfl, rfl, SqL.of upd_same, gm, D, C, R, _, m, rfl, hm1, by omega, d1.new n6, by omega, fun J2 k kp d2 b1 b2 => ?_⟩
      have k2 : Keep [D, R] J J2 := (Keep.new n6).trans kp
      have e4' := k2 W _ e4 (notDR nWD.1 nWD.2.2)
      have e5' : Dts (W :: av) J2 us (na.map prD) := e5.keep (k2.mono (by intro z hz; simp only [List.mem_cons, List.not_mem_nil, or_false] at hz; rcases hz with hz | hz <;> (subst hz; simp [mD, mR])))
      have trJ2 : Tr (W :: av) J2 := trJ.keep k2 d2
      refine ⟨1, k, rfl, rfl, show 2 ≤ sizeLine by decide, fun t nt => ?_⟩
      have ntav := trJ2.not nt
      have e6 : (upd J2 t (.tup [.int n, .int (1 + k)])) W = some (.lst us) := by rw [upd_ne (ne_of_none e4' nt)]; exact e4'
      refine ⟨us, e6, ?_, ?_, ?_, na ++ [(n, 1 + k)], us ++ [.ref t], by rw [List.length_append, e1]; rfl, ?_, ?_, upd_same, ?_⟩
      · have := e5.len
        rw [List.length_map, e1] at this
        rw [this]; exact small1000 (by omega)
      · exact (k1.trans (k2.trans (Keep.new nt))).upd nW
      · have z := d2.new (o := .tup [.int n, .int (1 + k)]) nt
        exact (z.other nWD.1 nWD.2.1 nWD.2.2).mono (by have : ((i + 1 : Nat) : Int) = (i : Int) + 1 := by omega
                                                       omega)
      · rw [List.map_append, e2, List.take_add_one, hn]; rfl
      · intro p hp
        rcases List.mem_append.mp hp with hp | hp
        · exact e3 p hp
        · rw [List.mem_singleton.mp hp]; exact ⟨by show 1 ≤ 1 + k; omega, by show 1 + k ≤ 1000000; omega⟩
      · rw [List.map_append]
        have z : Dts (W :: av) (upd J2 t (.tup [.int n, .int (1 + k)])) (us ++ [.ref t]) (na.map prD ++ [prD (n, 1 + k)]) :=
          (e5'.keep (Keep.new nt)).app (.cons (.tup ntav upd_same (.cons (.int n) (.cons (.int (1 + k)) .nil))) .nil)
        exact z.keep (Keep.put List.mem_cons_self)
    · obtain ⟨k1, d1, na, us, e1, e2, e3, e4, e5⟩ := p
      rw [List.length_map] at d1 e1 e2
      rw [List.take_of_length_le (Nat.le_refl _)] at e2
      refine ⟨W, us, rfl, .inl ⟨SqL.of e4, fun T nT => ?_⟩⟩
      have trJ : Tr (W :: av) J := (trG.keep k1 d1).cons e4
      have dT : Dt av (upd J T (.tup us)) (.ref T) (.tuple (na.map prD)) :=
        .tup (fun m => trJ.not nT (List.mem_cons_of_mem _ m)) upd_same ((e5.keep (Keep.new nT)).less fun a m => List.mem_cons_of_mem _ m)
      have k2 : Keep [D, R] G (upd J T (.tup us)) := k1.trans (Keep.new nT)
      have d2 : Deck (upd J T (.tup us)) D C R (b + 33) := (d1.new nT).mono (by omega)
      have trT : Tr av (upd J T (.tup us)) := trG.keep k2 d2
      generalize upd J T (.tup us) = G2 at *
      have ehaG2 := k2 ha _ ehaG (notDR nhD.1 nhD.2.1)
      have eLG2 := k2 L _ eLG (notDR nLD nLR)
      refine ⟨.int x, rfl, .int y, rfl, .int l, rfl, .ref T, rfl, .ref ha, rfl, ha, rfl, ⟨_, SqL.of ehaG2⟩, fun W2 nW2 => ?_⟩
      have nWE := d2.ne nW2
      refine lc_list (K := K) (a := ha) (xs := ms.map V.int)
        (fun i J => Keep [D, R] G2 J ∧ Deck J D C R (b + 33 + i) ∧ ∃ (fl : List (Int × Int)) (us : List V), fl.length = i ∧ fl.map (·.1) = ms.take i ∧ (∀ p ∈ fl, p.2 = 1 ∨ p.2 = -1) ∧ J W2 = some (.lst us) ∧ Dts (W2 :: av) J us (fl.map prD))
        ⟨Keep.new nW2, (d2.new nW2).mono (by omega), [], [], rfl, rfl, fun _ z => absurd z List.not_mem_nil, upd_same, .nil⟩ (fun i J _ p => SqL.of (p.1 ha _ ehaG2 (notDR nhD.1 nhD.2.1))) (fun i v J hx p => ?_) (fun J p => ?_)
      · obtain ⟨k1, d1, fl, us, f1, f2, f3, f4, f5⟩ := p
        rw [List.getElem?_map] at hx
        obtain ⟨n, hn, rfl⟩ := Option.map_eq_some_iff.mp hx
        have hi : i < ms.length := (List.getElem?_eq_some_iff.mp hn).1
        have trJ : Tr (W2 :: av) J := (trT.keep k1 d1).cons f4
        refine ⟨rfl, .int n, rfl, .ref D, rfl, D, C, R, _, 2, rfl, by decide, by decide, d1, by omega, fun J2 k kp dk' b1 b2 => ?_⟩
        have f4' := kp W2 _ f4 (notDR nWE.1 nWE.2.2)
        have f5' : Dts (W2 :: av) J2 us (fl.map prD) := f5.keep (kp.mono (by intro z hz; simp only [List.mem_cons, List.not_mem_nil, or_false] at hz; rcases hz with hz | hz <;> (subst hz; simp [mD, mR])))
        have trJ2 : Tr (W2 :: av) J2 := trJ.keep kp dk'
        refine ⟨2, k, rfl, rfl, .inl ⟨by decide, by decide⟩, 1, _, rfl, rfl, show 2 ≤ sizeLine by decide, fun t nt => ?_⟩
        have ntav := trJ2.not nt
        have e6 : (upd J2 t (.tup [.int n, .int (1 - 2 * k)])) W2 = some (.lst us) := by rw [upd_ne (ne_of_none f4' nt)]; exact f4'
        refine ⟨us, e6, ?_, ?_, ?_, fl ++ [(n, 1 - 2 * k)], us ++ [.ref t], by rw [List.length_append, f1]; rfl, ?_, ?_, upd_same, ?_⟩
        · have := f5.len
          rw [List.length_map, f1] at this
          rw [this]; exact small1000 (by omega)
        · exact (k1.trans (kp.trans (Keep.new nt))).upd nW2
        · have z := dk'.new (o := .tup [.int n, .int (1 - 2 * k)]) nt
          exact (z.other nWE.1 nWE.2.1 nWE.2.2).mono (by have : ((i + 1 : Nat) : Int) = (i : Int) + 1 := by omega
                                                         omega)
        · rw [List.map_append, f2, List.take_add_one, hn]; rfl
        · intro p hp
          rcases List.mem_append.mp hp with hp | hp
          · exact f3 p hp
          · rw [List.mem_singleton.mp hp]
            show 1 - 2 * k = 1 ∨ 1 - 2 * k = -1
            omega
        · rw [List.map_append]
          have z : Dts (W2 :: av) (upd J2 t (.tup [.int n, .int (1 - 2 * k)])) (us ++ [.ref t]) (fl.map prD ++ [prD (n, 1 - 2 * k)]) :=
            (f5'.keep (Keep.new nt)).app (.cons (.tup ntav upd_same (.cons (.int n) (.cons (.int (1 - 2 * k)) .nil))) .nil)
          exact z.keep (Keep.put List.mem_cons_self)
      · obtain ⟨k3, d3, fl, us', f1, f2, f3, f4, f5⟩ := p
        rw [List.length_map] at d3 f1 f2
        rw [List.take_of_length_le (Nat.le_refl _)] at f2
        refine ⟨W2, us', rfl, .inl ⟨SqL.of f4, fun T2 nT2 => ?_⟩⟩
        have trJ : Tr (W2 :: av) J := (trT.keep k3 d3).cons f4
        refine ⟨show 5 ≤ sizeLine by decide, fun p np => ?_⟩
        have kU : Keep av J (upd J T2 (.tup us')) := Keep.new nT2
        have kV : Keep av (upd J T2 (.tup us')) (upd (upd J T2 (.tup us')) p (.tup [.int x, .int y, .int l, .ref T, .ref T2])) := Keep.new np
        have kJ : Keep av G2 J := k3.mono (by intro z hz; simp only [List.mem_cons, List.not_mem_nil, or_false] at hz; rcases hz with hz | hz <;> (subst hz; assumption))
        have tav : Tr av J := fun a m => trJ a (List.mem_cons_of_mem _ m)
        have dT2 : Dt av (upd J T2 (.tup us')) (.ref T2) (.tuple (fl.map prD)) := .tup (tav.not nT2) upd_same ((f5.keep (Keep.new nT2)).less fun a m => List.mem_cons_of_mem _ m)
        have tU : Tr av (upd J T2 (.tup us')) := tav.upd
        have dTT := ((dT.keep kJ).keep kU).keep kV
        have dT2T := dT2.keep kV
        have k5 : Keep [D, R, L] H (upd (upd J T2 (.tup us')) p (.tup [.int x, .int y, .int l, .ref T, .ref T2])) :=
          kG.trans (((k2.trans (k3.trans ((Keep.new nT2).trans (Keep.new np))))).mono (by intro z hz; simp only [List.mem_cons, List.not_mem_nil, or_false] at hz ⊢; rcases hz with hz | hz <;> simp [hz]))
        refine q _ p l na fl k5 (((d3.new nT2).new np).mono (by omega)) ?_ (by omega) (by omega) ⟨hl1, hl2, by rw [e2]; exact pw1, fun z hz => ?_, by rw [f2]; exact pw2, fun z hz => ?_, by omega, by omega⟩ ?_ tU.upd
        · have z3 := k3 L _ eLG2 (notDR nLD nLR)
          have z4 : (upd J T2 (.tup us')) L = _ := (Keep.new (av := []) nT2) L _ z3 List.not_mem_nil
          have z5 := (Keep.new (av := []) (o := .tup [.int x, .int y, .int l, .ref T, .ref T2]) np) L _ z4 List.not_mem_nil
          rw [z5, e1, f1]
        · have m1 : z.1 ∈ ns := by rw [← e2]; exact List.mem_map_of_mem hz
          have := in1 _ m1
          have := e3 z hz
          omega
        · have m1 : z.1 ∈ ms := by rw [← f2]; exact List.mem_map_of_mem hz
          have := in2 _ m1
          exact ⟨this.1, this.2, f3 z hz⟩
        · exact .tup (tU.not np) upd_same (.cons (.int x) (.cons (.int y) (.cons (.int l) (.cons dTT (.cons dT2T .nil)))))
end
end Rw

namespace Rw
open PySem PySem.Spec PyProof.Rows L2
structure Pi where
  x : Int
  y : Int
  l : Int
  na : List (Int × Int)
  fl : List (Int × Int)
def Pi.dat (p : Pi) : PyData := pipeD p.x p.y p.l p.na p.fl
structure Pi.ok (n : Int) (p : Pi) : Prop where
  x0 : 0 ≤ p.x
  x1 : p.x ≤ n - 1
  y0 : 0 ≤ p.y
  y1 : p.y ≤ n - 1
  fit : Fit p.l p.na p.fl
theorem perm2 {a b : Int} {ns : List Int} (h : ns.Perm [a, b]) : ns = [a, b] ∨ ns = [b, a] := by
  have hl : ns.length = 2 := h.length_eq
  match ns, hl with
  | [u, v], _ =>
    have hu : u = a ∨ u = b := by simpa using h.mem_iff.mp (List.mem_cons_self (a := u) (l := [v]))
    rcases hu with rfl | rfl
    · have := (List.perm_cons u).mp h
      have e := List.perm_singleton.mp this
      left; rw [e]
    · have h2 : [u, v].Perm [u, a] := h.trans (List.Perm.swap u a [])
      have := (List.perm_cons u).mp h2
      have e := List.perm_singleton.mp this
      right; rw [e]
section
variable {P : Program} {w : World} {K : PySem.W.Frag} {mg : Str → Option Value} {base : Heap}
abbrev sHouse : Stmt := topS 15
abbrev nHouse : List Str := ["_law_deck_here", "_law_most", "_law_far", "_law_flaps", "_law_rooms", "_law_names", "_law_room", "_law_pipes", "_law_left", "_law_k", "_law_pair", "_law_new"]
theorem scHouse : FnScope nHouse ["_law_deck_here", "_law_most", "_law_far", "_law_flaps"] (defScope sHouse) := ⟨rfl, rfl, rfl, by decide +kernel, rfl, by decide +kernel, by decide +kernel⟩
def spHouse : Sp := fun vs H Q _ => ∃ (D C R : Addr) (b most far flaps : Int) (av : List Addr), vs = [.ref D, .int most, .int far, .int flaps] ∧ 1 ≤ most ∧ most ≤ 16 ∧ (far = 0 ∨ far = 1) ∧ 0 ≤ flaps ∧ flaps ≤ 1 ∧
  Deck H D C R b ∧ b ≤ 600000000 ∧ Tr av H ∧ D ∈ av ∧ R ∈ av ∧
  ∀ H' (p : Addr) (n : Int) (ps : List Pi), Keep [D, R] H H' → Deck H' D C R (b + 2000) → 1 ≤ n → n ≤ 16 → (ps.length : Int) = n - 1 → (∀ p ∈ ps, p.ok n) → Dt av H' (.ref p) (houseD n (ps.map Pi.dat)) → Tr av H' → Q (.ref p) H'
theorem ok_house (h : Has K mg "_law_house" sHouse) (B : Blt mg) (CN : Can P w K mg base "_law_next" ["_law_deck_here", "_law_many"] 1 spNext)
    (CP : Can P w K mg base "_law_pipe" ["_law_deck_here", "_law_one_here", "_law_other", "_law_left", "_law_far"] 5 spPipe) : Can P w K mg base "_law_house" ["_law_deck_here", "_law_most", "_law_far", "_law_flaps"] 6 spHouse := by
  obtain ⟨f, fd, F, g⟩ := h
  refine ⟨f, fd, F.ok (k := 5) scHouse (fun vs H Q E h => ?_) (fun cdv A outer s H vs Q E hr h => ?_), g, F.kp, F.binds fun _ _ _ _ _ _ us hl => match us, hl with | [_, _, _, _], _ => rfl⟩
  · obtain ⟨D, C, R, b, most, far, flaps, av, rfl, _⟩ := h
    rfl
  · obtain ⟨D, C, R, b, most, far, flaps, av, rfl, m1, m2, hf, f0, f1, dk, hb, tr, mD, mR, q⟩ := h
    refine ⟨_, pss_cons (ps_set (i := 4) scHouse.nd rfl (.inl rfl) (pe_op op_add pe_int (pe_can CN (hr.mono (by decide)) (by rfl) (pa_cons (pv 0) (pa_cons (pv 1) pa_nil)))))
      (pss_cons (ps_set (i := 5) scHouse.nd rfl (.inl rfl) (pe_lst pa_nil))
      (pss_cons (ps_for PassesOwn.never rfl (pi_range1 (by rfl) B.range_ (pa_cons (pv 4) pa_nil)) (pg_name (i := 6) scHouse.nd rfl (Or.inl rfl))
        (pss_one (ps_expr (pe_bm PySem.F.plainAttrs_list PySem.F.slot_list_insert PySem.F.type_list_insert mt_insert (pv 5) (pa_cons (pe_can CN (hr.mono (by decide)) (by rfl) (pa_cons (pv 0) (pa_cons (pe_op op_add (pv 6) pe_int) pa_nil))) (pa_cons (pv 6) pa_nil))))))
      (pss_cons (ps_set (i := 7) scHouse.nd rfl (.inl rfl) (pe_lst pa_nil))
      (pss_cons (ps_set (i := 8) scHouse.nd rfl (.inl rfl) (pe_lst (pa_cons pe_int (pa_cons (pe_op op_mul pe_int (pv 3)) pa_nil))))
      (pss_cons (ps_for PassesOwn.never rfl (pi_range2 (by rfl) B.range_ (pa_cons pe_int (pa_cons (pv 4) pa_nil))) (pg_name (i := 9) scHouse.nd rfl (Or.inl rfl))
        (pss_cons (ps_set (i := 10) scHouse.nd rfl (.inl rfl) (pe_callB cr_sorted (by rfl) B.sorted_ boot_sorted (pa_cons (pe_lst (pa_cons (pe_ix ix_list (pv 5) (pe_can CN (hr.mono (by decide)) (by rfl) (pa_cons (pv 0) (pa_cons (pv 9) pa_nil))) (fun _ _ => rfl)) (pa_cons (pe_ix ix_list (pv 5) (pv 9) (fun _ _ => rfl)) pa_nil))) pa_nil)))
        (pss_cons (ps_set (i := 11) scHouse.nd rfl (.inl rfl) (pe_can CP hr (by rfl) (pa_cons (pv 0) (pa_cons (pe_ix ix_list (pv 10) pe_int (fun _ _ => rfl)) (pa_cons (pe_ix ix_list (pv 10) pe_int (fun _ _ => rfl)) (pa_cons (pv 8) (pa_cons (pv 2) pa_nil)))))))
        (pss_one (ps_expr (pe_bm PySem.F.plainAttrs_list PySem.F.slot_list_insert PySem.F.type_list_insert mt_insert (pv 7) (pa_cons (pe_can CN (hr.mono (by decide)) (by rfl) (pa_cons (pv 0) (pa_cons (pv 9) pa_nil))) (pa_cons (pv 11) pa_nil))))))))
      (pss_one (ps_ret (pe_tup (pa_cons (pv 4) (pa_cons (pe_callTy call_tuple_of (by rfl) B.tuple_ boot_tuple (pa_cons (pv 7) pa_nil)) pa_nil)))))))))), ?_⟩
    refine ⟨.ref D, rfl, .int most, rfl, D, C, R, b, most, rfl, m1, by omega, dk, by omega, fun H1 k1 kp1 dk1 a1 a2 => ?_⟩
    refine ⟨1, k1, rfl, rfl, ?_⟩
    have hn1 : 1 ≤ 1 + k1 := by omega
    have hn2 : 1 + k1 ≤ 16 := by omega
    dsimp only
    generalize 1 + k1 = n at hn1 hn2
    refine ⟨show 0 ≤ sizeLine by decide, fun Nn nN => ?_⟩
    have zN := dk1.ne nN
    refine ⟨.int n, rfl, n, rfl, by omega, by omega, for_range (lo := 0) (n := n.toNat)
      (fun i σ G => ∃ s6, σ = [some (.ref D), some (.int most), some (.int far), some (.int flaps), some (.int n), some (.ref Nn), s6, none, none, none, none, none] ∧ Keep [D, R] H1 G ∧ Deck G D C R (b + 1 + i) ∧ ∃ ms : List Int, ms.length = i ∧ (∀ v ∈ ms, 0 ≤ v ∧ v < n) ∧ G Nn = some (.lst (ms.map V.int)))
      ⟨none, rfl, Keep.new nN, (dk1.new nN).mono (by omega), [], rfl, fun _ z => absurd z List.not_mem_nil, upd_same⟩ (fun i σ G hi p => ?_) (fun σ G p => ?_)⟩
    · obtain ⟨s6, rfl, k2, d2, ms, l2, c2, e2⟩ := p
      refine ⟨.ref Nn, rfl, .inl ⟨rfl, _, SqL.of e2⟩, .ref D, rfl, .int (0 + (i : Int)), rfl, _, 1, rfl, rfl, D, C, R, _, _, rfl, by omega, by omega, d2, by omega, fun G2 k kp d3 b1 b2 => ?_⟩
      have e3 := kp Nn _ e2 (notDR zN.1 zN.2.2)
      refine ⟨.int (0 + (i : Int)), rfl, Nn, ms.map V.int, k, .int (0 + (i : Int)), rfl, rfl, e3, by rw [List.length_map, l2]; exact small1000 (by omega), b1, by omega, ?_⟩
      refine ⟨some (.int (0 + (i : Int))), rfl, (k2.trans kp).upd nN, (d3.other zN.1 zN.2.1 zN.2.2).mono (by omega), ms.take k.toNat ++ [0 + (i : Int)] ++ ms.drop k.toNat, ?_, ?_, ?_⟩
      · rw [List.length_append, List.length_append, List.length_take, List.length_drop, List.length_singleton]; omega
      · intro v hv
        rcases List.mem_append.mp hv with hv | hv
        · rcases List.mem_append.mp hv with hv | hv
          · exact c2 v (List.mem_of_mem_take hv)
          · rw [List.mem_singleton.mp hv]; omega
        · exact c2 v (List.mem_of_mem_drop hv)
      · rw [upd_same, List.map_append, List.map_append, List.map_take, List.map_drop]; rfl
    · obtain ⟨s6, rfl, k2, d2, ms, l2, c2, e2⟩ := p
      refine ⟨show 0 ≤ sizeLine by decide, fun Pp nP => ?_⟩
      have zP := d2.ne nP
      refine ⟨.int flaps, rfl, 6, flaps, rfl, rfl, .inl ⟨by decide, by decide⟩, show 2 ≤ sizeLine by decide, fun L nL => ?_⟩
      have d3 := d2.new (o := .lst []) nP
      have zL := d3.ne nL
      have d4 : Deck (upd (upd G Pp (.lst [])) L (.lst [.int 12, .int (6 * flaps)])) D C R (b + 1 + 16) := (d3.new nL).mono (by omega)
      have nPN : Pp ≠ Nn := (ne_of_none e2 nP).symm
      have e3 : (upd G Pp (.lst [])) Nn = some (.lst (ms.map V.int)) := by rw [upd_ne nPN.symm]; exact e2
      have nLN : L ≠ Nn := (ne_of_none e3 nL).symm
      have nLP : L ≠ Pp := (ne_of_none (upd_same (H := G) (a := Pp) (o := .lst [])) nL).symm
      have k3 : Keep [D, R] H (upd (upd G Pp (.lst [])) L (.lst [.int 12, .int (6 * flaps)])) := kp1.trans (k2.trans ((Keep.new nP).trans (Keep.new nL)))
      have eL3 : (upd (upd G Pp (.lst [])) L (.lst [.int 12, .int (6 * flaps)])) L = some (.lst [.int 12, .int (6 * flaps)]) := upd_same
      have eP3 : (upd (upd G Pp (.lst [])) L (.lst [.int 12, .int (6 * flaps)])) Pp = some (.lst []) := by rw [upd_ne nLP.symm]; exact upd_same
      have eN3 : (upd (upd G Pp (.lst [])) L (.lst [.int 12, .int (6 * flaps)])) Nn = some (.lst (ms.map V.int)) := by rw [upd_ne nLN.symm]; exact e3
      have tr3 : Tr (L :: Nn :: Pp :: av) (upd (upd G Pp (.lst [])) L (.lst [.int 12, .int (6 * flaps)])) := (((tr.keep k3 d4).cons eP3).cons eN3).cons eL3
      have fN : H Nn = none := kp1.free dk1 nN
      have fP : H Pp = none := (kp1.trans k2).free d2 nP
      have fL : H L = none := by
        have z : Keep [D, R] H (upd G Pp (.lst [])) := kp1.trans (k2.trans (Keep.new nP))
        exact z.free d3 nL
      have t6 : (6 * flaps : Int) ≤ 100 := by omega
      have t7 : (0 : Int) ≤ 6 * flaps := by omega
      dsimp only
      generalize hG0 : upd (upd G Pp (.lst [])) L (.lst [.int 12, .int (6 * flaps)]) = G0 at *
      generalize 6 * flaps = fm at *
      refine ⟨.int n, rfl, 1, n, rfl, ⟨by decide, by decide, by omega, by omega⟩, for_range (lo := 1) (n := (n - 1).toNat)
        (fun i σ J => ∃ s9 s10 s11, σ = [some (.ref D), some (.int most), some (.int far), some (.int flaps), some (.int n), some (.ref Nn), s6, some (.ref Pp), some (.ref L), s9, s10, s11] ∧
          Keep [D, R] H J ∧ Deck J D C R (b + 17 + 62 * i) ∧ J Nn = some (.lst (ms.map V.int)) ∧ Tr (L :: Nn :: Pp :: av) J ∧ (∃ l0 l1 : Int, J L = some (.lst [.int l0, .int l1]) ∧ 0 ≤ l0 ∧ 0 ≤ l1 ∧ l0 ≤ 100 ∧ l1 ≤ 100) ∧
          ∃ (ps : List Pi) (us : List V), ps.length = i ∧ (∀ p ∈ ps, p.ok n) ∧ J Pp = some (.lst us) ∧ Dts (L :: Nn :: Pp :: av) J us (ps.map Pi.dat))
        ⟨none, none, none, rfl, k3, d4.mono (by omega), eN3, tr3, ⟨12, fm, eL3, by decide, t7, by decide, t6⟩, [], [], rfl, fun _ z => absurd z List.not_mem_nil, eP3, .nil⟩ (fun i σ J hi p => ?_) (fun σ J p => ?_)⟩
      · obtain ⟨s9, s10, s11, rfl, k4, d4, eN, tr4, ⟨l0, l1, eL, p0, p1, p2, p3⟩, ps, us, lps, okp, eP, dts⟩ := p
        have msl : ms.length = n.toNat := l2
        refine ⟨.ref Nn, rfl, .ref D, rfl, .int (1 + (i : Int)), rfl, D, C, R, _, _, rfl, by omega, by omega, d4, by omega, fun J2 k kp d5 b1 b2 => ?_⟩
        have eN2 := kp Nn _ eN (notDR zN.1 zN.2.2)
        have q1 : (ms.map V.int)[k.toNat]? = some (.int (ms[k.toNat]'(by omega))) := by
          rw [List.getElem?_map, List.getElem?_eq_getElem (by omega)]; rfl
        have q2 : (ms.map V.int)[(1 + (i : Int)).toNat]? = some (.int (ms[(1 + (i : Int)).toNat]'(by omega))) := by
          rw [List.getElem?_map, List.getElem?_eq_getElem (by omega)]; rfl
        refine ⟨Nn, _, k, _, rfl, rfl, SqL.of eN2, atI_of b1 q1, .ref Nn, rfl, .int (1 + (i : Int)), rfl, Nn, _, _, _, rfl, rfl, SqL.of eN2, atI_of (by omega) q2, show 2 ≤ sizeLine by decide, fun a6 n6 => ?_⟩
        have cu := c2 _ (List.getElem_mem (l := ms) (n := k.toNat) (by omega))
        have cv := c2 _ (List.getElem_mem (l := ms) (n := (1 + (i : Int)).toNat) (by omega))
        generalize ms[k.toNat]'(by omega) = u at cu
        generalize ms[(1 + (i : Int)).toNat]'(by omega) = v at cv
        refine ⟨a6, [u, v], rfl, SqL.of upd_same, show 2 < 64 by decide, fun ns a7 pm pw n7 => ?_⟩
        obtain ⟨x, y, rfl, hx, hy⟩ : ∃ x y, ns = [x, y] ∧ (0 ≤ x ∧ x < n) ∧ (0 ≤ y ∧ y < n) := by
          rcases perm2 pm with e | e
          · exact ⟨u, v, e, cu, cv⟩
          · exact ⟨v, u, e, cv, cu⟩
        have k5 : Keep [D, R] J (upd (upd J2 a6 (.lst [.int u, .int v])) a7 (.lst [.int x, .int y])) := kp.trans ((Keep.new n6).trans (Keep.new n7))
        have d6 : Deck (upd (upd J2 a6 (.lst [.int u, .int v])) a7 (.lst [.int x, .int y])) D C R (b + 17 + 62 * i + 1) := (d5.new n6).new n7
        have e7 : (upd (upd J2 a6 (.lst [.int u, .int v])) a7 (.lst [.int x, .int y])) a7 = some (.lst [.int x, .int y]) := upd_same
        show (_ : Prop)
        have hJ3 : upd (upd J2 a6 (.lst [.int u, .int v])) a7 (.lst ([x, y].map V.int)) = upd (upd J2 a6 (.lst [.int u, .int v])) a7 (.lst [.int x, .int y]) := rfl
        rw [hJ3]
        generalize upd (upd J2 a6 (.lst [.int u, .int v])) a7 (.lst [.int x, .int y]) = J3 at k5 d6 e7 ⊢
        have eL3 := k5 L _ eL (notDR zL.1 zL.2.2)
        have tr5 := tr4.keep k5 d6
        refine ⟨.ref D, rfl, .ref a7, rfl, a7, _, 0, .int x, rfl, rfl, SqL.of e7, atI_nat (j := 0) rfl, .ref a7, rfl, a7, _, 1, .int y, rfl, rfl, SqL.of e7, atI_nat (j := 1) rfl, .ref L, rfl, .int far, rfl,
          D, C, R, L, _, x, y, l0, l1, far, L :: Nn :: Pp :: av, rfl, eL3, p0, p1, p2, p3, zL.1, zL.2.1, zL.2.2, hf, d6, by omega, tr5, by simp [mD], by simp [mR], by simp, fun J4 pa l na fl k6 d7 eL4 g1 g2 fit dp tr6 => ?_⟩
        have sub : ∀ z ∈ [D, R, L], z ∈ L :: Nn :: Pp :: av := by
          intro z hz
          simp only [List.mem_cons, List.not_mem_nil, or_false] at hz ⊢
          rcases hz with hz | hz | hz
          · subst hz; simp [mD]
          · subst hz; simp [mR]
          · subst hz; simp
        have sub2 : ∀ z ∈ [D, R], z ∈ L :: Nn :: Pp :: av := by
          intro z hz
          exact sub z (by simp only [List.mem_cons, List.not_mem_nil, or_false] at hz ⊢; rcases hz with hz | hz <;> simp [hz])
        have dts3 := (dts.keep (k5.mono sub2)).keep (k6.mono sub)
        have not3 : ∀ {z : Addr}, z ≠ D → z ≠ R → z ≠ L → z ∉ [D, R, L] := fun {z} h1 h2 h3 m => by
          simp only [List.mem_cons, List.not_mem_nil, or_false] at m
          rcases m with m | m | m
          · exact h1 m
          · exact h2 m
          · exact h3 m
        have eP4 := k6 Pp _ (k5 Pp _ eP (notDR zP.1 zP.2.2)) (not3 zP.1 zP.2.2 nLP.symm)
        have eN4 := k6 Nn _ (k5 Nn _ eN (notDR zN.1 zN.2.2)) (not3 zN.1 zN.2.2 nLN.symm)
        refine ⟨.ref Pp, rfl, .inl ⟨rfl, _, SqL.of eP4⟩, .ref D, rfl, .int (1 + (i : Int)), rfl, D, C, R, _, _, rfl, by omega, by omega, d7, by omega, fun J5 k' kp' d8 b3 b4 => ?_⟩
        have eP5 := kp' Pp _ eP4 (notDR zP.1 zP.2.2)
        have ul : us.length = i := by rw [dts.len, List.length_map, lps]
        refine ⟨.ref pa, rfl, Pp, us, k', .ref pa, rfl, rfl, eP5, by rw [ul]; exact small1000 (by omega), b3, by omega, ?_⟩
        have k7 : Keep [D, R] J3 J5 → True := fun _ => trivial
        have dts5 := dts3.keep (kp'.mono sub2)
        have dp5 := dp.keep (kp'.mono sub2)
        have kH : Keep [D, R] H J5 := by
          intro z o ez nz
          have z1 := k5 z o (k4 z o ez nz) nz
          have zl : z ≠ L := ne_of_none ez fL
          have z2 := k6 z o z1 (by
            intro m
            simp only [List.mem_cons, List.not_mem_nil, or_false] at m nz
            rcases m with m | m | m
            · exact nz (.inl m)
            · exact nz (.inr m)
            · exact zl m)
          exact kp' z o z2 nz
        refine ⟨_, _, _, rfl, kH.upd fP, (d8.other zP.1 zP.2.1 zP.2.2).mono (by omega), ?_, (tr6.keep kp' d8).upd, ⟨l0 - na.length, l1 - fl.length, ?_, by omega, by omega, by omega, by omega⟩,
          ps.take k'.toNat ++ [⟨x, y, l, na, fl⟩] ++ ps.drop k'.toNat, us.take k'.toNat ++ [.ref pa] ++ us.drop k'.toNat, ?_, ?_, upd_same, ?_⟩
        · rw [upd_ne nPN.symm]; exact kp' Nn _ eN4 (notDR zN.1 zN.2.2)
        · rw [upd_ne nLP]; exact kp' L _ eL4 (notDR zL.1 zL.2.2)
        · rw [List.length_append, List.length_append, List.length_take, List.length_drop, List.length_singleton]; omega
        · intro z hz
          rcases List.mem_append.mp hz with hz | hz
          · rcases List.mem_append.mp hz with hz | hz
            · exact okp z (List.mem_of_mem_take hz)
            · rw [List.mem_singleton.mp hz]
              exact ⟨hx.1, by show x ≤ n - 1; omega, hy.1, by show y ≤ n - 1; omega, fit⟩
          · exact okp z (List.mem_of_mem_drop hz)
        · rw [List.map_append, List.map_append, List.map_take, List.map_drop]
          exact (((dts5.take _).app (.cons dp5 .nil)).app (dts5.drop _)).keep (Keep.put (by simp))
      · obtain ⟨s9, s10, s11, rfl, k4, d4, eN, tr4, ⟨l0, l1, eL, p0, p1, p2, p3⟩, ps, us, lps, okp, eP, dts⟩ := p
        refine ⟨.int n, rfl, .ref Pp, rfl, Pp, us, rfl, .inl ⟨SqL.of eP, fun T nT => ?_⟩⟩
        refine ⟨show 2 ≤ sizeLine by decide, fun p np => ?_⟩
        have tav : Tr av J := fun a m => tr4 a (by simp [m])
        have dT : Dt av (upd J T (.tup us)) (.ref T) (.tuple (ps.map Pi.dat)) := .tup (tav.not nT) upd_same ((dts.keep (Keep.new nT)).less fun a m => by simp [m])
        refine q _ p n ps (k4.trans ((Keep.new nT).trans (Keep.new np))) (((d4.new nT).new np).mono (by omega)) hn1 hn2 (by omega) okp ?_ (tav.upd).upd
        exact .tup ((tav.upd).not np) upd_same (.cons (.int n) (.cons (dT.keep (Keep.new np)) .nil))
end
end Rw

namespace Rw
open PySem PySem.Spec PyProof.Rows L2
/-! ### how long data is when it is shown -/
mutual
def cnt : PyData → Nat
  | .none => 1
  | .bool _ => 1
  | .int _ => 1
  | .str _ => 1
  | .dict _ => 1
  | .list xs => 1 + cnts xs
  | .tuple xs => 1 + cnts xs
def cnts : List PyData → Nat
  | [] => 0
  | x :: xs => cnt x + cnts xs
end
mutual
def leafy (M : Nat) : PyData → Prop
  | .none => True
  | .bool _ => True
  | .int i => i.natAbs ≤ M
  | .str x => (reprText x).length ≤ 2000
  | .dict kvs => kvs = []
  | .list xs => leafys M xs
  | .tuple xs => leafys M xs
def leafys (M : Nat) : List PyData → Prop
  | [] => True
  | x :: xs => leafy M x ∧ leafys M xs
end
structure Sm (M m n : Nat) (d : PyData) : Prop where
  lf : leafy M d
  dp : d.depth ≤ m
  ct : cnt d ≤ n
structure Sms (M m n : Nat) (ds : List PyData) : Prop where
  lf : leafys M ds
  dp : PyData.depthAll ds ≤ m
  ct : cnts ds ≤ n
abbrev big : Nat := 10 ^ 39 + 100000
theorem log2_big {i : Int} (h : i.natAbs ≤ big) : i.natAbs.log2 < 1920 := by
  by_cases h0 : i.natAbs = 0
  · rw [h0]; decide
  · rw [Nat.log2_lt h0]
    exact Nat.lt_of_lt_of_le (Nat.lt_of_le_of_lt h (show big < 2 ^ 200 by decide)) (Nat.pow_le_pow_right (by decide) (by decide))
mutual
theorem show_ok {M : Nat} (hM : M ≤ big) : ∀ d : PyData, leafy M d → d.showable = true
  | .none, _ => by simp only [PyData.showable]
  | .bool _, _ => by simp only [PyData.showable]
  | .int i, h => by
    simp only [leafy] at h
    simp only [PyData.showable, decide_eq_true_eq]
    exact log2_big (Nat.le_trans h hM)
  | .str _, _ => by simp only [PyData.showable]
  | .dict kvs, h => by
    simp only [leafy] at h
    subst h
    simp only [PyData.showable, PyData.showableKv]
  | .list xs, h => by
    simp only [leafy] at h
    simp only [PyData.showable]
    exact shows_ok hM xs h
  | .tuple xs, h => by
    simp only [leafy] at h
    simp only [PyData.showable]
    exact shows_ok hM xs h
theorem shows_ok {M : Nat} (hM : M ≤ big) : ∀ ds : List PyData, leafys M ds → PyData.showableAll ds = true
  | [], _ => by simp only [PyData.showableAll]
  | d :: ds, h => by
    simp only [leafys] at h
    simp only [PyData.showableAll, Bool.and_eq_true]
    exact ⟨show_ok hM d h.1, shows_ok hM ds h.2⟩
end
theorem int_len {i : Int} (h : i.natAbs ≤ big) : (Str.ofString (toString i)).length ≤ 41 := by
  rw [PySem.ofString_length]
  exact int_text_length_le10 (k := 40) (by decide) (Nat.lt_of_le_of_lt h (by decide))
mutual
theorem show_le {M : Nat} (hM : M ≤ big) : ∀ d : PyData, leafy M d → d.shown.length + 10 ≤ 2020 * cnt d
  | .none, _ => by
    have e : (PyData.shown .none).length = 4 := rfl
    simp only [cnt]; omega
  | .bool b, _ => by
    have e : (PyData.shown (.bool b)).length ≤ 5 := by cases b <;> decide
    simp only [cnt]; omega
  | .int i, h => by
    simp only [leafy] at h
    have e : (PyData.shown (.int i)).length ≤ 41 := int_len (Nat.le_trans h hM)
    simp only [cnt]; omega
  | .str x, h => by
    simp only [leafy] at h
    simp only [cnt, PyData.shown]; omega
  | .dict kvs, h => by
    simp only [leafy] at h
    subst h
    have e : (PyData.shown (.dict [])).length ≤ 3 := by
      simp only [PyData.shown, PyData.shownKv]
      exact dictText_len_le []
    simp only [cnt]; omega
  | .list xs, h => by
    simp only [leafy] at h
    have h1 := shows_le hM xs h
    have h2 := listText_len_le (PyData.shownAll xs)
    have h3 := PyData.shownAll_length xs
    simp only [PyData.shown, cnt]
    omega
  | .tuple xs, h => by
    simp only [leafy] at h
    have h1 := shows_le hM xs h
    have h2 := tupleText_len_le (PyData.shownAll xs)
    have h3 := PyData.shownAll_length xs
    simp only [PyData.shown, cnt]
    omega
theorem shows_le {M : Nat} (hM : M ≤ big) : ∀ ds : List PyData, leafys M ds → ((PyData.shownAll ds).map (·.length)).sum + 10 * ds.length ≤ 2020 * cnts ds
  | [], _ => by simp only [PyData.shownAll, cnts, List.map_nil, List.sum_nil, List.length_nil]; omega
  | d :: ds, h => by
    simp only [leafys] at h
    have h1 := show_le hM d h.1
    have h2 := shows_le hM ds h.2
    simp only [PyData.shownAll, cnts, List.map_cons, List.sum_cons, List.length_cons]
    omega
end
theorem reprs_int {i : Int} (h : i.natAbs ≤ big) : (reprText (Str.ofString (toString i))).length ≤ 2000 := by
  have hx : ∀ c ∈ (Str.ofString (toString i)).cps.toList, c < 16 ^ 8 := by
    rw [Str.ofString_eq_toList]
    intro c hc
    have hc' : c ∈ ((toString i).toList.map Char.toNat) := hc
    obtain ⟨ch, _, rfl⟩ := List.mem_map.mp hc'
    have := ch.valid
    have h2 : ch.toNat < 1114112 := by
      show ch.val.toNat < 1114112
      rcases this with z | z
      · exact Nat.lt_trans (show ch.val.toNat < 0xd800 from z) (by decide)
      · exact z.2
    omega
  have := StrLaws.reprText_len _ hx
  have := int_len h
  omega
/-! lists of data -/
theorem leafys_app {M : Nat} : ∀ {xs ys : List PyData}, leafys M (xs ++ ys) ↔ leafys M xs ∧ leafys M ys
  | [], ys => by simp [leafys]
  | x :: xs, ys => by
    rw [List.cons_append]
    simp only [leafys]
    rw [leafys_app (xs := xs)]
    exact and_assoc.symm
theorem cnts_app : ∀ xs ys : List PyData, cnts (xs ++ ys) = cnts xs + cnts ys
  | [], ys => by simp [cnts]
  | x :: xs, ys => by rw [List.cons_append]; simp only [cnts]; rw [cnts_app xs ys]; omega
theorem depth_app : ∀ xs ys : List PyData, PyData.depthAll (xs ++ ys) = max (PyData.depthAll xs) (PyData.depthAll ys)
  | [], ys => by simp [PyData.depthAll]
  | x :: xs, ys => by rw [List.cons_append]; simp only [PyData.depthAll]; rw [depth_app xs ys]; omega
theorem leafys_mem {M : Nat} : ∀ {xs : List PyData} {d : PyData}, leafys M xs → d ∈ xs → leafy M d
  | x :: xs, d, h, m => by
    simp only [leafys] at h
    rcases List.mem_cons.mp m with m | m
    · rw [m]; exact h.1
    · exact leafys_mem h.2 m
theorem cnts_mem : ∀ {xs : List PyData} {d : PyData}, d ∈ xs → cnt d ≤ cnts xs
  | x :: xs, d, m => by
    simp only [cnts]
    rcases List.mem_cons.mp m with m | m
    · rw [m]; omega
    · have := cnts_mem m; omega
theorem depth_mem : ∀ {xs : List PyData} {d : PyData}, d ∈ xs → d.depth ≤ PyData.depthAll xs
  | x :: xs, d, m => by
    simp only [PyData.depthAll]
    rcases List.mem_cons.mp m with m | m
    · rw [m]; omega
    · have := depth_mem m; omega
theorem cnt_pos : ∀ d : PyData, 1 ≤ cnt d
  | .none => by simp only [cnt]; omega
  | .bool _ => by simp only [cnt]; omega
  | .int _ => by simp only [cnt]; omega
  | .str _ => by simp only [cnt]; omega
  | .dict _ => by simp only [cnt]; omega
  | .list _ => by simp only [cnt]; omega
  | .tuple _ => by simp only [cnt]; omega
mutual
theorem leafy_mono {M N : Nat} (h : M ≤ N) : ∀ d : PyData, leafy M d → leafy N d
  | .none, _ => by simp only [leafy]
  | .bool _, _ => by simp only [leafy]
  | .int i, z => by simp only [leafy] at z ⊢; omega
  | .str _, z => by simp only [leafy] at z ⊢; exact z
  | .dict _, z => by simp only [leafy] at z ⊢; exact z
  | .list xs, z => by simp only [leafy] at z ⊢; exact leafys_mono h xs z
  | .tuple xs, z => by simp only [leafy] at z ⊢; exact leafys_mono h xs z
theorem leafys_mono {M N : Nat} (h : M ≤ N) : ∀ ds : List PyData, leafys M ds → leafys N ds
  | [], _ => by simp only [leafys]
  | d :: ds, z => by simp only [leafys] at z ⊢; exact ⟨leafy_mono h d z.1, leafys_mono h ds z.2⟩
end
theorem Sm.mono {M m n M' m' n' : Nat} {d : PyData} (x : Sm M m n d) (h1 : M ≤ M') (h2 : m ≤ m') (h3 : n ≤ n') : Sm M' m' n' d :=
  ⟨leafy_mono h1 d x.lf, Nat.le_trans x.dp h2, Nat.le_trans x.ct h3⟩
/-! a drawn house is small -/
theorem pr_leafy {M : Nat} : ∀ na : List (Int × Int), (∀ p ∈ na, p.1.natAbs ≤ M ∧ p.2.natAbs ≤ M) → leafys M (na.map prD) ∧ cnts (na.map prD) = 3 * na.length ∧ PyData.depthAll (na.map prD) ≤ 1
  | [], _ => by simp [leafys, cnts, PyData.depthAll]
  | p :: na, h => by
    obtain ⟨h1, h2, h3⟩ := pr_leafy na fun q m => h q (List.mem_cons_of_mem _ m)
    have h4 := h p List.mem_cons_self
    have e : prD p = .tuple [.int p.1, .int p.2] := rfl
    rw [List.map_cons, e]
    simp only [leafys, cnts, PyData.depthAll, leafy, cnt, PyData.depth, List.length_cons]
    exact ⟨⟨⟨h4.1, h4.2, trivial⟩, h1⟩, by omega, by omega⟩
theorem pi_small {n : Int} (hn : n ≤ 16) {p : Pi} (h : p.ok n) : Sm (10 ^ 12) 3 30 p.dat := by
  obtain ⟨x0, x1, y0, y1, ⟨l1, l2, _, nin, _, fin, nle, fle⟩⟩ := h
  obtain ⟨a1, a2, a3⟩ := pr_leafy (M := 10 ^ 12) p.na fun q m => by
    have := nin q m
    omega
  obtain ⟨b1, b2, b3⟩ := pr_leafy (M := 10 ^ 12) p.fl fun q m => by
    have := fin q m
    omega
  have e : p.dat = .tuple [.int p.x, .int p.y, .int p.l, .tuple (p.na.map prD), .tuple (p.fl.map prD)] := rfl
  rw [e]
  refine ⟨?_, ?_, ?_⟩
  · simp only [leafy, leafys]
    exact ⟨by omega, by omega, by omega, a1, b1, trivial⟩
  · simp only [PyData.depth, PyData.depthAll]; omega
  · simp only [cnt, cnts]; omega
theorem pis_small {n : Int} (hn : n ≤ 16) : ∀ ps : List Pi, (∀ p ∈ ps, p.ok n) → leafys (10 ^ 12) (ps.map Pi.dat) ∧ PyData.depthAll (ps.map Pi.dat) ≤ 3 ∧ cnts (ps.map Pi.dat) ≤ 30 * ps.length
  | [], _ => by simp [leafys, cnts, PyData.depthAll]
  | p :: ps, h => by
    obtain ⟨h1, h2, h3⟩ := pis_small hn ps fun q m => h q (List.mem_cons_of_mem _ m)
    have h4 := pi_small hn (h p List.mem_cons_self)
    simp only [List.map_cons, leafys, cnts, PyData.depthAll, List.length_cons]
    exact ⟨⟨h4.lf, h1⟩, by have := h4.dp; omega, by have := h4.ct; omega⟩
theorem house_small {n : Int} (h0 : 1 ≤ n) (hn : n ≤ 16) {ps : List Pi} (hl : (ps.length : Int) = n - 1) (h : ∀ p ∈ ps, p.ok n) : Sm (10 ^ 12) 5 500 (houseD n (ps.map Pi.dat)) := by
  obtain ⟨h1, h2, h3⟩ := pis_small hn ps h
  refine ⟨?_, ?_, ?_⟩
  · simp only [houseD, leafy, leafys]
    exact ⟨by omega, h1, trivial⟩
  · simp only [houseD, PyData.depth, PyData.depthAll]; omega
  · simp only [houseD, cnt, cnts]; omega
theorem house_pipes {ps : List Pi} : PipesOk (ps.map Pi.dat) := fun q m => by
  obtain ⟨p, _, rfl⟩ := List.mem_map.mp m
  exact ⟨_, _, _, _, rfl⟩
end Rw

namespace Rw
open PySem PySem.Spec PyProof.Rows L2
mutual
theorem Dt.dp {K : PySem.W.Frag} {av : List Addr} {H : Hp} : ∀ (d : PyData) (v : V), Dt av H v d → d.canLay0 = true → Dp K H v d
  | _, _, .non, _ => .non
  | _, _, .bl b, _ => .bl b
  | _, _, .int i, _ => .int i
  | _, _, .str x, _ => .str x
  | .list ds, _, .lst n _ e s, h => .lst (SqL.of e) (Dts.dp ds _ s (by simpa only [PyData.canLay0] using h))
  | .tuple ds, _, .tup n e s, h => .tup (SqT.of e) (Dts.dp ds _ s (by simpa only [PyData.canLay0] using h))
  | .dict _, _, .dct n e, h => by simp only [PyData.canLay0] at h; cases h
theorem Dts.dp {K : PySem.W.Frag} {av : List Addr} {H : Hp} : ∀ (ds : List PyData) (vs : List V), Dts av H vs ds → PyData.canLayAll0 ds = true → DpAll K H vs ds
  | [], _, .nil, _ => .nil
  | d :: ds, _, .cons x t, h => by
    simp only [PyData.canLayAll0, Bool.and_eq_true] at h
    exact .cons (Dt.dp d _ x h.1) (Dts.dp ds _ t h.2)
end
theorem lay_prs : ∀ na : List (Int × Int), PyData.canLayAll0 (na.map prD) = true
  | [] => by simp [PyData.canLayAll0]
  | p :: na => by
    have e : prD p = .tuple [.int p.1, .int p.2] := rfl
    rw [List.map_cons, e]
    simp only [PyData.canLayAll0, PyData.canLay0, lay_prs na, Bool.and_true]
theorem lay_pis : ∀ ps : List Pi, PyData.canLayAll0 (ps.map Pi.dat) = true
  | [] => by simp [PyData.canLayAll0]
  | p :: ps => by
    have e : p.dat = .tuple [.int p.x, .int p.y, .int p.l, .tuple (p.na.map prD), .tuple (p.fl.map prD)] := rfl
    rw [List.map_cons, e]
    simp only [PyData.canLayAll0, PyData.canLay0, lay_prs, lay_pis ps, Bool.and_true]
theorem shaped_of {d : PyData} (h : d.canLay0 = true) (h2 : d.depth ≤ 64) : SeqAt.shaped d = true := by
  unfold SeqAt.shaped
  rw [h, decide_eq_true h2]; rfl
theorem eqv_nil (ds : List PyData) : PyData.eqv (.tuple ds) (.tuple []) = ds.isEmpty := by
  cases ds <;> rfl
/-! ### a house as it is handed about: its two parts -/
theorem house_parts {av : List Addr} {H : Hp} {h : V} {n : Int} {ps : List PyData} (x : Dt av H h (houseD n ps)) :
    ∃ (ah ap : Addr) (xp : List V), h = .ref ah ∧ ah ∉ av ∧ H ah = some (.tup [.int n, .ref ap]) ∧ ap ∉ av ∧ H ap = some (.tup xp) ∧ Dts av H xp ps := by
  cases x with
  | tup na ea da =>
    cases da with
    | cons d1 da =>
      cases d1
      cases da with
      | cons d2 da =>
        cases da
        cases d2 with
        | tup nb eb db => exact ⟨_, _, _, rfl, na, ea, nb, eb, db⟩
/-! the pipe at a place -/
theorem pi_at {av : List Addr} {H : Hp} {xp : List V} {ps : List Pi} (hs : Dts av H xp (ps.map Pi.dat)) {i : Int} (h0 : 0 ≤ i) (h1 : i < ps.length) :
    ∃ (p : Pi) (pa T1 T2 : Addr), p ∈ ps ∧ ps[i.toNat]? = some p ∧ atI xp i = some (.ref pa) ∧ H pa = some (.tup [.int p.x, .int p.y, .int p.l, .ref T1, .ref T2]) := by
  have e : ps[i.toNat]? = some (ps[i.toNat]'(by omega)) := List.getElem?_eq_getElem (by omega)
  obtain ⟨v, ev, dv⟩ := hs.get i.toNat (d := (ps[i.toNat]'(by omega)).dat) (by rw [List.getElem?_map, e]; rfl)
  have ep : (ps[i.toNat]'(by omega)).dat = .tuple [.int (ps[i.toNat]'(by omega)).x, .int (ps[i.toNat]'(by omega)).y, .int (ps[i.toNat]'(by omega)).l, .tuple ((ps[i.toNat]'(by omega)).na.map prD), .tuple ((ps[i.toNat]'(by omega)).fl.map prD)] := rfl
  rw [ep] at dv
  cases dv with
  | tup na ea da =>
    cases da with
    | cons d1 da => cases d1; cases da with
      | cons d2 da => cases d2; cases da with
        | cons d3 da => cases d3; cases da with
          | cons d4 da => cases d4 with
            | tup _ _ _ => cases da with
              | cons d5 da => cases d5 with
                | tup _ _ _ =>
                  cases da
                  exact ⟨_, _, _, _, List.getElem_mem _, e, atI_of h0 ev, ea⟩
/-! ### places, drawn -/
def plD : PyData → Prop
  | .tuple [.int u] => u.natAbs ≤ 10 ^ 12
  | .tuple [.int u, .int v] => u.natAbs ≤ 10 ^ 12 ∧ v.natAbs ≤ 10 ^ 12
  | _ => False
theorem plD_cases {d : PyData} (h : plD d) : (∃ u : Int, d = .tuple [.int u] ∧ u.natAbs ≤ 10 ^ 12) ∨ ∃ u v : Int, d = .tuple [.int u, .int v] ∧ u.natAbs ≤ 10 ^ 12 ∧ v.natAbs ≤ 10 ^ 12 := by
  unfold plD at h
  split at h
  · exact .inl ⟨_, rfl, h⟩
  · exact .inr ⟨_, _, rfl, h⟩
  · exact h.elim
section
variable {P : Program} {w : World} {K : PySem.W.Frag} {mg : Str → Option Value} {base : Heap}
abbrev sNamed : Stmt := topS 16
abbrev sPlaceL : Stmt := topS 17
theorem scNamed : FnScope ["_law_house_here", "_law_pipe_here", "_law_at", "_law_one_here", "_law_other", "_law_length_here"] ["_law_house_here", "_law_pipe_here", "_law_at"] (defScope sNamed) := ⟨rfl, rfl, rfl, by decide +kernel, rfl, by decide +kernel, by decide +kernel⟩
theorem scPlaceL : FnScope ["_law_deck_here", "_law_house_here", "_law_pipe_here"] ["_law_deck_here", "_law_house_here"] (defScope sPlaceL) := ⟨rfl, rfl, rfl, by decide +kernel, rfl, by decide +kernel, by decide +kernel⟩
def spNamed : Sp := fun vs H Q _ => ∃ (h : V) (n i t : Int) (ps : List Pi) (p : Pi) (av : List Addr), vs = [h, .int i, .int t] ∧ Dt av H h (houseD n (ps.map Pi.dat)) ∧ n ≤ 16 ∧ (ps.length : Int) = n - 1 ∧ (∀ p ∈ ps, p.ok n) ∧ 0 ≤ i ∧ i < ps.length ∧ ps[i.toNat]? = some p ∧ 0 ≤ t ∧ t ≤ p.l ∧ Tr av H ∧
  ∀ H' (a : Addr) (d : PyData), Keep [] H H' → H a = none → Dt av H' (.ref a) d → isPlace n (ps.map Pi.dat) d = true → plD d → Tr av H' → Q (.ref a) H'
theorem ok_named (h : Has K mg "_law_named" sNamed) (B : Blt mg) : Can P w K mg base "_law_named" ["_law_house_here", "_law_pipe_here", "_law_at"] 1 spNamed := by
  obtain ⟨f, fd, F, g⟩ := h
  refine ⟨f, fd, F.ok (k := 0) scNamed (fun vs H Q E h => ?_) (fun cdv A outer s H vs Q E hr h => ?_), g, F.kp, F.binds fun _ _ _ _ _ _ us hl => match us, hl with | [_, _, _], _ => rfl⟩
  · obtain ⟨h, n, i, t, ps, p, av, rfl, _⟩ := h
    rfl
  · obtain ⟨h, n, i, t, ps, p, av, rfl, dh, hn, hl, okp, i0, i1, hp, t0, t1, tr, q⟩ := h
    refine ⟨_, pss_cons (ps_asg (pe_slice sl_tup (pe_ix ix_tup (pe_ix ix_tup (pv 0) pe_int (fun _ _ => rfl)) (pv 1) (fun _ _ => rfl)) po_none (po_some pe_int)) (pg_tup (by rfl) (pgs_cons (pg_name (i := 3) scNamed.nd rfl (.inl rfl)) (pgs_cons (pg_name (i := 4) scNamed.nd rfl (.inl rfl)) (pgs_cons (pg_name (i := 5) scNamed.nd rfl (.inl rfl)) pgs_nil)))))
      (pss_cons (ps_if (pt_cmpR op_eq (pv 2) pe_int (nomark _)) (pss_one (ps_ret (pe_tup (pa_cons (pv 3) pa_nil)))) pss_nil)
      (pss_one (ps_ret (pe_ix ix_list (pe_lst (pa_cons (pe_tup (pa_cons (pv 1) (pa_cons (pv 2) pa_nil))) (pa_cons (pe_tup (pa_cons (pv 4) pa_nil)) pa_nil))) (pe_callTy call_int1 (by rfl) B.int_ boot_int (pa_cons (pe_cmpR op_eq (pv 2) (pv 5) (nomark _)) pa_nil)) (fun _ _ => rfl))))), ?_⟩
    obtain ⟨ah, ap, xp, rfl, nah, eah, nap, eap, dxp⟩ := house_parts dh
    obtain ⟨p', pa, T1, T2, mp, hp', epa, eP⟩ := pi_at dxp i0 i1
    obtain rfl : p' = p := Option.some.inj (hp'.symm.trans hp)
    have okq := okp p' mp
    refine ⟨.ref ah, rfl, ah, _, 1, .ref ap, rfl, rfl, SqT.of eah, atI_nat (j := 1) rfl, .int i, rfl, ap, _, i, .ref pa, rfl, rfl, SqT.of eap, epa, 3, rfl, pa, _, rfl, SqT.of eP, (show ¬ (HT.sIx 5 0 none = 0 ∧ HT.sIx 5 5 (some 3) = 5) by decide), fun c nc => ?_⟩
    have ec : cutV [V.int p'.x, V.int p'.y, V.int p'.l, V.ref T1, V.ref T2] none (some 3) = [.int p'.x, .int p'.y, .int p'.l] := rfl
    rw [ec]
    refine ⟨c, [.int p'.x, .int p'.y, .int p'.l], rfl, SqT.of upd_same, rfl, .int p'.x, _, rfl, .int p'.y, _, rfl, .int p'.l, [], rfl, rfl, ?_⟩
    have k1 : Keep [] H (upd H c (.tup [.int p'.x, .int p'.y, .int p'.l])) := Keep.new nc
    have tr1 : Tr av (upd H c (.tup [.int p'.x, .int p'.y, .int p'.l])) := tr.upd
    have fr : ∀ {G : Hp} {z : Addr}, Keep [] H G → G z = none → H z = none := fun {G z} k nz => by
      cases hq : H z with
      | none => rfl
      | some o => rw [k.same z o hq] at nz; cases nz
    generalize upd H c (.tup [.int p'.x, .int p'.y, .int p'.l]) = H1 at k1 tr1
    refine ⟨.int t, rfl, rfl, _, rfl, ite2 (fun e => ?_) (fun e => ?_)⟩
    · refine ⟨.int p'.x, rfl, show 1 ≤ sizeLine by decide, fun z nz => ?_⟩
      refine q _ z (.tuple [.int p'.x]) (k1.trans (Keep.new nz)) (fr k1 nz) (.tup (tr1.not nz) upd_same (.cons (.int _) .nil)) ?_ ?_ tr1.upd
      · show (decide (0 ≤ p'.x) && decide (p'.x ≤ n - 1)) = true
        rw [decide_eq_true okq.x0, decide_eq_true okq.x1]; rfl
      · show p'.x.natAbs ≤ 10 ^ 12
        have := okq.x0
        have := okq.x1
        omega
    · have e0 : t ≠ 0 := fun z => e (decide_eq_true (by rw [z]))
      refine ⟨.int i, rfl, .int t, rfl, show 2 ≤ sizeLine by decide, fun z nz => ⟨.int p'.y, rfl, show 1 ≤ sizeLine by decide, fun y ny => ?_⟩⟩
      have k2 : Keep [] H1 (upd H1 z (.tup [.int i, .int t])) := Keep.new nz
      have k3 : Keep [] H1 (upd (upd H1 z (.tup [.int i, .int t])) y (.tup [.int p'.y])) := k2.trans (Keep.new ny)
      have ez : (upd (upd H1 z (.tup [.int i, .int t])) y (.tup [.int p'.y])) z = some (.tup [.int i, .int t]) := by
        rw [upd_ne (ne_of_none (upd_same (H := H1) (a := z)) ny)]; exact upd_same
      have tr3 : Tr av (upd (upd H1 z (.tup [.int i, .int t])) y (.tup [.int p'.y])) := tr1.upd.upd
      have nzav : z ∉ av := tr1.not nz
      have nyav : y ∉ av := (tr1.upd (p := z) (o := .tup [.int i, .int t])).not ny
      have fz : H z = none := fr k1 nz
      have fy : H y = none := fr (k1.trans k2) ny
      refine ⟨show 2 ≤ sizeLine by decide, fun l nl => ?_⟩
      refine ⟨.int t, rfl, .int p'.l, rfl, rfl, .inr ⟨_, rfl, ?_⟩⟩
      have k4 := k3.trans (Keep.new (av := []) (o := .lst [.ref z, .ref y]) nl)
      by_cases hc : t = p'.l
      · have z1 : decide (V.int t = V.int p'.l) = true := decide_eq_true (by rw [hc])
        rw [z1]
        refine ⟨l, [.ref z, .ref y], 1, .ref y, rfl, rfl, SqL.of upd_same, atI_nat (j := 1) rfl, ?_⟩
        refine q _ y (.tuple [.int p'.y]) (k1.trans k4) fy ((Dt.tup nyav upd_same (.cons (.int _) .nil)).keep (Keep.new nl)) ?_ ?_ tr3.upd
        · show (decide (0 ≤ p'.y) && decide (p'.y ≤ n - 1)) = true
          rw [decide_eq_true okq.y0, decide_eq_true okq.y1]; rfl
        · show p'.y.natAbs ≤ 10 ^ 12
          have := okq.y0
          have := okq.y1
          omega
      · have z1 : decide (V.int t = V.int p'.l) = false := decide_eq_false fun y => hc (V.int.inj y)
        rw [z1]
        refine ⟨l, [.ref z, .ref y], 0, .ref z, rfl, rfl, SqL.of upd_same, atI_nat (j := 0) rfl, ?_⟩
        refine q _ z (.tuple [.int i, .int t]) (k1.trans k4) fz ((Dt.tup nzav ez (.cons (.int _) (.cons (.int _) .nil))).keep (Keep.new nl)) ?_ ?_ tr3.upd
        · have el : lenOf ((ps.map Pi.dat).getD i.toNat .none) = p'.l := by
            rw [List.getD_eq_getElem?_getD, List.getElem?_map, hp]; rfl
          show ((decide (0 ≤ i) && decide (i ≤ ((ps.map Pi.dat).length : Int) - 1)) && (decide (1 ≤ t) && decide (t ≤ lenOf ((ps.map Pi.dat).getD i.toNat .none) - 1))) = true
          rw [el, List.length_map, decide_eq_true i0, decide_eq_true (show i ≤ (ps.length : Int) - 1 by omega), decide_eq_true (show 1 ≤ t by omega), decide_eq_true (show t ≤ p'.l - 1 by omega)]; rfl
        · have := okq.fit.l2
          show i.natAbs ≤ 10 ^ 12 ∧ t.natAbs ≤ 10 ^ 12
          omega
def spPlaceL : Sp := fun vs H Q _ => ∃ (h : V) (D C R : Addr) (n b : Int) (ps : List Pi) (av : List Addr), vs = [.ref D, h] ∧ Dt av H h (houseD n (ps.map Pi.dat)) ∧ 1 ≤ n ∧ n ≤ 16 ∧ (ps.length : Int) = n - 1 ∧ (∀ p ∈ ps, p.ok n) ∧ Deck H D C R b ∧ b ≤ 600000000 ∧ Tr av H ∧ D ∈ av ∧ R ∈ av ∧
  ∀ H' (a : Addr) (d : PyData), Keep [D, R] H H' → Deck H' D C R (b + 10) → H a = none → Dt av H' (.ref a) d → isPlace n (ps.map Pi.dat) d = true → plD d → Tr av H' → Q (.ref a) H'
theorem ok_placeL (h : Has K mg "_law_place" sPlaceL) (B : Blt mg) (CN : Can P w K mg base "_law_next" ["_law_deck_here", "_law_many"] 1 spNext) (CE : Can P w K mg base "_law_edge" ["_law_deck_here", "_law_many"] 3 spEdge)
    (CM : Can P w K mg base "_law_named" ["_law_house_here", "_law_pipe_here", "_law_at"] 1 spNamed) : Can P w K mg base "_law_place" ["_law_deck_here", "_law_house_here"] 4 spPlaceL := by
  obtain ⟨f, fd, F, g⟩ := h
  refine ⟨f, fd, F.ok (k := 3) scPlaceL (fun vs H Q E h => ?_) (fun cdv A outer s H vs Q E hr h => ?_), g, F.kp, F.binds fun _ _ _ _ _ _ us hl => match us, hl with | [_, _], _ => rfl⟩
  · obtain ⟨h, D, C, R, n, b, ps, av, rfl, _⟩ := h
    rfl
  · obtain ⟨h, D, C, R, n, b, ps, av, rfl, dh, n0, hn, hl, okp, dk, hb, tr, mD, mR, q⟩ := h
    refine ⟨_, pss_cons (ps_if (PW.pt (pw_or (pt_cmpR (op_eqD hr.units) (pe_ix ix_tup (pv 1) pe_int (fun _ _ => rfl)) (pe_tup pa_nil) (nomark _)) (pw_or1 (pt_cmpR op_eq (pe_can CN (hr.mono (by decide)) (by rfl) (pa_cons (pv 0) (pa_cons pe_int pa_nil))) pe_int (nomark _)))))
        (pss_one (ps_ret (pe_tup (pa_cons (pe_can CN (hr.mono (by decide)) (by rfl) (pa_cons (pv 0) (pa_cons (pe_ix ix_tup (pv 1) pe_int (fun _ _ => rfl)) pa_nil))) pa_nil)))) pss_nil)
      (pss_cons (ps_set (i := 2) scPlaceL.nd rfl (.inl rfl) (pe_can CN (hr.mono (by decide)) (by rfl) (pa_cons (pv 0) (pa_cons (pe_callB call_len_seq (by rfl) B.len_ PySem.boot_len (pa_cons (pe_ix ix_tup (pv 1) pe_int (fun _ _ => rfl)) pa_nil)) pa_nil))))
      (pss_one (ps_ret (pe_can CM (hr.mono (by decide)) (by rfl) (pa_cons (pv 1) (pa_cons (pv 2) (pa_cons (pe_can CE hr (by rfl) (pa_cons (pv 0) (pa_cons (pe_op op_add (pe_ix ix_tup (pe_ix ix_tup (pe_ix ix_tup (pv 1) pe_int (fun _ _ => rfl)) (pv 2) (fun _ _ => rfl)) pe_int (fun _ _ => rfl)) pe_int) pa_nil))) pa_nil))))))), ?_⟩
    obtain ⟨ah, ap, xp, rfl, nah, eah, nap, eap, dxp⟩ := house_parts dh
    have subDR : ∀ z ∈ [D, R], z ∈ av := by
      intro z hz
      simp only [List.mem_cons, List.not_mem_nil, or_false] at hz
      rcases hz with hz | hz <;> (subst hz; assumption)
    have sm := house_small n0 hn hl okp
    refine ⟨.ref ah, rfl, ah, _, 1, .ref ap, rfl, rfl, SqT.of eah, atI_nat (j := 1) rfl, show 0 ≤ sizeLine by decide, fun c nc => ?_⟩
    have k1 : Keep [] H (upd H c (.tup [])) := Keep.new nc
    have d1 : Deck (upd H c (.tup [])) D C R b := dk.new nc
    have tr1 : Tr av (upd H c (.tup [])) := tr.upd
    have dh1 : Dt av (upd H c (.tup [])) (.ref ah) (houseD n (ps.map Pi.dat)) := dh.keep (Keep.of k1)
    have eah1 := k1.same ah _ eah
    have eap1 := k1.same ap _ eap
    have dxp1 : Dts av (upd H c (.tup [])) xp (ps.map Pi.dat) := dxp.keep (Keep.of k1)
    refine ⟨.tuple (ps.map Pi.dat), .tuple [], Dp.tup (SqT.of eap1) (Dts.dp _ _ dxp1 (lay_pis ps)), .tup (SqT.of upd_same) .nil, shaped_of (by simp only [PyData.canLay0]; exact lay_pis ps) ?_, by decide, _, rfl, ?_⟩
    · have := (pis_small hn ps okp).2.1
      simp only [PyData.depth]; omega
    generalize hH1 : upd H c (.tup []) = H1 at *
    -- a room
    have room : ∀ (H2 : Hp) (b2 : Int), Keep [D, R] H H2 → Deck H2 D C R b2 → b2 ≤ b + 2 → ∀ H3 k, Keep [D, R] H2 H3 → Deck H3 D C R (b2 + 1) → 0 ≤ k → k < n → ∀ z, H3 z = none → Q (.ref z) (upd H3 z (.tup [.int k])) := fun H2 b2 k2 d2 hb2 H3 k k3 d3 a1 a2 z nz => by
      have kk := k2.trans k3
      refine q _ z (.tuple [.int k]) (kk.trans (Keep.new nz)) ((d3.new nz).mono (by omega)) (kk.free d3 nz) (.tup ((tr.keep kk d3).not nz) upd_same (.cons (.int k) .nil)) ?_ ?_ (tr.keep kk d3).upd
      · show (decide (0 ≤ k) && decide (k ≤ n - 1)) = true
        rw [decide_eq_true a1, decide_eq_true (show k ≤ n - 1 by omega)]; rfl
      · show k.natAbs ≤ 10 ^ 12
        omega
    have k1' : Keep [D, R] H H1 := Keep.of k1
    rw [eqv_nil]
    refine ite2 (fun e => ?_) (fun e => ?_)
    · refine ⟨.ref D, rfl, .ref ah, rfl, ah, _, 0, .int n, rfl, rfl, SqT.of eah1, atI_nat (j := 0) rfl, D, C, R, b, n, rfl, n0, by omega, d1, by omega, fun H3 k k3 d3 a1 a2 => ?_⟩
      exact ⟨show 1 ≤ sizeLine by decide, room H1 b k1' d1 (by omega) H3 k k3 d3 a1 a2⟩
    · refine ⟨.ref D, rfl, D, C, R, b, 3, rfl, by decide, by decide, d1, by omega, fun H2 k2v k2 d2 _ _ => ⟨rfl, _, rfl, ite2 (fun e2 => ?_) (fun e2 => ?_)⟩⟩
      · have eah2 := k2 ah _ eah1 (fun m => nah (subDR _ m))
        refine ⟨.ref D, rfl, .ref ah, rfl, ah, _, 0, .int n, rfl, rfl, SqT.of eah2, atI_nat (j := 0) rfl, D, C, R, b + 1, n, rfl, n0, by omega, d2, by omega, fun H3 k k3 d3 a1 a2 => ?_⟩
        exact ⟨show 1 ≤ sizeLine by decide, room H2 (b + 1) (k1'.trans k2) d2 (by omega) H3 k k3 d3 a1 a2⟩
      · have pos : 0 < ps.length := by
          cases ps with
          | nil => exact absurd rfl e
          | cons _ _ => exact Nat.succ_pos _
        have eah2 := k2 ah _ eah1 (fun m => nah (subDR _ m))
        have eap2 := k2 ap _ eap1 (fun m => nap (subDR _ m))
        have lx : xp.length = ps.length := by rw [dxp.len, List.length_map]
        refine ⟨.ref D, rfl, .ref ah, rfl, ah, _, 1, .ref ap, rfl, rfl, SqT.of eah2, atI_nat (j := 1) rfl, ap, _, rfl, .inr (SqT.of eap2), D, C, R, b + 1, _, rfl, by omega, by omega, d2, by omega, fun H3 k k3 d3 a1 a2 => ?_⟩
        have dh3 := (dh1.keep (k2.mono subDR)).keep (k3.mono subDR)
        have eah3 := k3 ah _ eah2 (fun m => nah (subDR _ m))
        have eap3 := k3 ap _ eap2 (fun m => nap (subDR _ m))
        have dxp3 := (dxp1.keep (k2.mono subDR)).keep (k3.mono subDR)
        obtain ⟨p, pa, T1, T2, mp, hp, epa, eP⟩ := pi_at dxp3 a1 (by omega : k < ps.length)
        have okq := okp p mp
        have l1 := okq.fit.l1
        have l2 := okq.fit.l2
        refine ⟨.ref ah, rfl, .int k, rfl, .ref D, rfl, .ref ah, rfl, ah, _, 1, .ref ap, rfl, rfl, SqT.of eah3, atI_nat (j := 1) rfl, .int k, rfl, ap, _, k, .ref pa, rfl, rfl, SqT.of eap3, epa, pa, _, 2, .int p.l, rfl, rfl, SqT.of eP, atI_nat (j := 2) rfl, p.l, 1, rfl, rfl,
          D, C, R, b + 1 + 1, p.l + 1, rfl, by omega, by omega, d3, by omega, fun H4 t k4 d4 a3 a4 => ?_⟩
        have kk : Keep [D, R] H H4 := k1'.trans (k2.trans (k3.trans k4))
        refine ⟨.ref ah, n, k, t, ps, p, av, rfl, dh3.keep (k4.mono subDR), hn, hl, okp, a1, by omega, hp, a3, by omega, tr.keep kk d4, fun H5 a d k5 na' da ip pl tr5 => ?_⟩
        exact q H5 a d (kk.trans (Keep.of k5)) ((d4.keep k5).mono (by omega)) (kk.free d4 na') da ip pl tr5
end
end Rw

namespace Rw
open PySem PySem.Spec PyProof.Rows L2
/-! one more thing is made -/
theorem Dt.newT {av : List Addr} {H : Hp} {p : Addr} {xs : List V} {ds : List PyData} (t : Tr av H) (n : H p = none) (x : Dts av H xs ds) : Dt av (upd H p (.tup xs)) (.ref p) (.tuple ds) := .tup (t.not n) upd_same (x.keep (Keep.new n))
theorem Dt.newL {av : List Addr} {H : Hp} {p : Addr} {xs : List V} {ds : List PyData} (t : Tr av H) (n : H p = none) (m : p ≠ sysModules) (x : Dts av H xs ds) : Dt av (upd H p (.lst xs)) (.ref p) (.list ds) := .lst (t.not n) m upd_same (x.keep (Keep.new n))
theorem Dt.newD {av : List Addr} {H : Hp} {p : Addr} (t : Tr av H) (n : H p = none) : Dt av (upd H p (.dK [])) (.ref p) (.dict []) := .dct (t.not n) upd_same
theorem Dt.kn {av : List Addr} {H : Hp} {p : Addr} {o : HO} {v : V} {d : PyData} (n : H p = none) (x : Dt av H v d) : Dt av (upd H p o) v d := x.keep (Keep.new n)
theorem Dts.kn {av : List Addr} {H : Hp} {p : Addr} {o : HO} {v : List V} {d : List PyData} (n : H p = none) (x : Dts av H v d) : Dts av (upd H p o) v d := x.keep (Keep.new n)
abbrev oddD : List PyData := [.none, .bool true, .bool false, .int (-1), .int 0, .int 1, .int (10 ^ 39), .str "", .str "0", .tuple [], .list [], .dict [], .tuple [.int 0], .list [.int 0], .tuple [.tuple []], .tuple [.int 0, .int 0, .int 0],
  .tuple [.int 0, .int 1, .int 2, .tuple [], .tuple []]]
theorem odd_small : ∀ d ∈ oddD, Sm (10 ^ 39) 2 10 d := by
  intro d hd
  have z0 : (reprText "").length ≤ 2000 := by decide +kernel
  have z1 : (reprText "0").length ≤ 2000 := by decide +kernel
  simp only [oddD, List.mem_cons, List.not_mem_nil, or_false] at hd
  rcases hd with h | h | h | h | h | h | h | h | h | h | h | h | h | h | h | h | h <;> subst h <;> refine ⟨?_, ?_, ?_⟩ <;> simp only [leafy, leafys, cnt, cnts, PyData.depth, PyData.depthAll, PyData.depthKv] <;> first | trivial | decide | exact z0 | exact z1 | omega
section
variable {P : Program} {w : World} {K : PySem.W.Frag} {mg : Str → Option Value} {base : Heap}
abbrev sOdd : Stmt := topS 18
theorem scOdd : FnScope ["_law_deck_here", "_law_some"] ["_law_deck_here"] (defScope sOdd) := ⟨rfl, rfl, rfl, by decide +kernel, rfl, by decide +kernel, by decide +kernel⟩
def spOdd : Sp := fun vs H Q _ => ∃ (D C R : Addr) (b : Int) (av : List Addr), vs = [.ref D] ∧ Deck H D C R b ∧ b ≤ 800000000 ∧ Tr av H ∧ D ∈ av ∧ R ∈ av ∧
  ∀ H' (x : V) (d : PyData), Keep [D, R] H H' → Deck H' D C R (b + 1) → Dt av H' x d → Sm (10 ^ 39) 2 10 d → Tr av H' → Q x H'
theorem ok_odd (h : Has K mg "_law_odd" sOdd) (CN : Can P w K mg base "_law_next" ["_law_deck_here", "_law_many"] 1 spNext) : Can P w K mg base "_law_odd" ["_law_deck_here"] 2 spOdd := by
  obtain ⟨f, fd, F, g⟩ := h
  refine ⟨f, fd, F.ok (k := 1) scOdd (fun vs H Q E h => ?_) (fun cdv A outer s H vs Q E hr h => ?_), g, F.kp, F.binds fun _ _ _ _ _ _ us hl => match us, hl with | [_], _ => rfl⟩
  · obtain ⟨D, C, R, b, av, rfl, _⟩ := h
    rfl
  · obtain ⟨D, C, R, b, av, rfl, dk, hb, tr, mD, mR, q⟩ := h
    refine ⟨_, pss_cons (ps_set (i := 1) scOdd.nd rfl (.inl rfl) (pe_lst (pa_cons pe_non (pa_cons pe_bl (pa_cons pe_bl (pa_cons (pe_un un_neg pe_int) (pa_cons pe_int (pa_cons pe_int (pa_cons (pe_op op_pow pe_int pe_int) (pa_cons pe_str (pa_cons pe_str
        (pa_cons (pe_tup pa_nil) (pa_cons (pe_lstN pa_nil) (pa_cons pe_dnewK (pa_cons (pe_tup (pa_cons pe_int pa_nil)) (pa_cons (pe_lstN (pa_cons pe_int pa_nil)) (pa_cons (pe_tup (pa_cons (pe_tup pa_nil) pa_nil)) (pa_cons (pe_tup (pa_cons pe_int (pa_cons pe_int (pa_cons pe_int pa_nil))))
        (pa_cons (pe_tup (pa_cons pe_int (pa_cons pe_int (pa_cons pe_int (pa_cons (pe_tup pa_nil) (pa_cons (pe_tup pa_nil) pa_nil)))))) pa_nil)))))))))))))))))))
      (pss_one (ps_ret (pe_ix ix_list (pv 1) (pe_can CN hr (by rfl) (pa_cons (pv 0) (pa_cons pe_int pa_nil))) (fun _ _ => rfl)))), ?_⟩
    have s0 : (0 : Nat) ≤ sizeLine := by decide
    refine ⟨1, rfl, 10, 39, rfl, rfl, ⟨by decide, by decide, by decide⟩, s0, fun a1 n1 => ⟨s0, fun a2 n2 q2 => fun a3 n3 => ⟨show 1 ≤ sizeLine by decide, fun a4 n4 => ⟨show 1 ≤ sizeLine by decide, fun a5 n5 q5 => ⟨s0, fun a6 n6 => ⟨show 1 ≤ sizeLine by decide, fun a7 n7 => ⟨show 3 ≤ sizeLine by decide, fun a8 n8 => ⟨s0, fun a9 n9 => ⟨s0, fun a10 n10 => ⟨show 5 ≤ sizeLine by decide, fun a11 n11 => ⟨show 17 ≤ sizeLine by decide, fun l nl => ?_⟩⟩⟩⟩⟩⟩⟩⟩⟩⟩⟩
    have t0 := tr
    have t1 := t0.upd (p := a1) (o := .tup [])
    have t2 := t1.upd (p := a2) (o := .lst [])
    have t3 := t2.upd (p := a3) (o := .dK [])
    have t4 := t3.upd (p := a4) (o := .tup [.int 0])
    have t5 := t4.upd (p := a5) (o := .lst [.int 0])
    have t6 := t5.upd (p := a6) (o := .tup [])
    have t7 := t6.upd (p := a7) (o := .tup [.ref a6])
    have t8 := t7.upd (p := a8) (o := .tup [.int 0, .int 0, .int 0])
    have t9 := t8.upd (p := a9) (o := .tup [])
    have t10 := t9.upd (p := a10) (o := .tup [])
    have t11 := t10.upd (p := a11) (o := .tup [.int 0, .int 1, .int 2, .ref a9, .ref a10])
    have x1 := Dt.newT t0 n1 .nil
    have x2 := Dt.newL t1 n2 q2 .nil
    have x3 := Dt.newD t2 n3
    have x4 := Dt.newT t3 n4 (.cons (.int 0) .nil)
    have x5 := Dt.newL t4 n5 q5 (.cons (.int 0) .nil)
    have x6 := Dt.newT t5 n6 .nil
    have x7 := Dt.newT t6 n7 (.cons x6 .nil)
    have x8 := Dt.newT t7 n8 (.cons (.int 0) (.cons (.int 0) (.cons (.int 0) .nil)))
    have x9 := Dt.newT t8 n9 .nil
    have x10 := Dt.newT t9 n10 .nil
    have x11 := Dt.newT t10 n11 (.cons (.int 0) (.cons (.int 1) (.cons (.int 2) (.cons (x9.kn n10) (.cons x10 .nil)))))
    have y1 := (((((((((x1.kn (o := .lst []) n2).kn (o := .dK []) n3).kn (o := .tup [.int 0]) n4).kn (o := .lst [.int 0]) n5).kn (o := .tup []) n6).kn (o := .tup [.ref a6]) n7).kn (o := .tup [.int 0, .int 0, .int 0]) n8).kn (o := .tup []) n9).kn (o := .tup []) n10).kn (o := .tup [.int 0, .int 1, .int 2, .ref a9, .ref a10]) n11
    have y2 := ((((((((x2.kn (o := .dK []) n3).kn (o := .tup [.int 0]) n4).kn (o := .lst [.int 0]) n5).kn (o := .tup []) n6).kn (o := .tup [.ref a6]) n7).kn (o := .tup [.int 0, .int 0, .int 0]) n8).kn (o := .tup []) n9).kn (o := .tup []) n10).kn (o := .tup [.int 0, .int 1, .int 2, .ref a9, .ref a10]) n11
    have y3 := (((((((x3.kn (o := .tup [.int 0]) n4).kn (o := .lst [.int 0]) n5).kn (o := .tup []) n6).kn (o := .tup [.ref a6]) n7).kn (o := .tup [.int 0, .int 0, .int 0]) n8).kn (o := .tup []) n9).kn (o := .tup []) n10).kn (o := .tup [.int 0, .int 1, .int 2, .ref a9, .ref a10]) n11
    have y4 := ((((((x4.kn (o := .lst [.int 0]) n5).kn (o := .tup []) n6).kn (o := .tup [.ref a6]) n7).kn (o := .tup [.int 0, .int 0, .int 0]) n8).kn (o := .tup []) n9).kn (o := .tup []) n10).kn (o := .tup [.int 0, .int 1, .int 2, .ref a9, .ref a10]) n11
    have y5 := (((((x5.kn (o := .tup []) n6).kn (o := .tup [.ref a6]) n7).kn (o := .tup [.int 0, .int 0, .int 0]) n8).kn (o := .tup []) n9).kn (o := .tup []) n10).kn (o := .tup [.int 0, .int 1, .int 2, .ref a9, .ref a10]) n11
    have y7 := (((x7.kn (o := .tup [.int 0, .int 0, .int 0]) n8).kn (o := .tup []) n9).kn (o := .tup []) n10).kn (o := .tup [.int 0, .int 1, .int 2, .ref a9, .ref a10]) n11
    have y8 := ((x8.kn (o := .tup []) n9).kn (o := .tup []) n10).kn (o := .tup [.int 0, .int 1, .int 2, .ref a9, .ref a10]) n11
    have d11 := ((((((((((dk.new (o := .tup []) n1).new (o := .lst []) n2).new (o := .dK []) n3).new (o := .tup [.int 0]) n4).new (o := .lst [.int 0]) n5).new (o := .tup []) n6).new (o := .tup [.ref a6]) n7).new (o := .tup [.int 0, .int 0, .int 0]) n8).new (o := .tup []) n9).new (o := .tup []) n10).new (o := .tup [.int 0, .int 1, .int 2, .ref a9, .ref a10]) n11
    have k11 : Keep [D, R] H _ := (Keep.new n1).trans ((Keep.new (o := .lst []) n2).trans ((Keep.new (o := .dK []) n3).trans ((Keep.new (o := .tup [.int 0]) n4).trans ((Keep.new (o := .lst [.int 0]) n5).trans ((Keep.new (o := .tup []) n6).trans ((Keep.new (o := .tup [.ref a6]) n7).trans ((Keep.new (o := .tup [.int 0, .int 0, .int 0]) n8).trans ((Keep.new (o := .tup []) n9).trans ((Keep.new (o := .tup []) n10).trans (Keep.new (o := .tup [.int 0, .int 1, .int 2, .ref a9, .ref a10]) n11))))))))))
    have all : Dts av _ _ oddD := .cons .non (.cons (.bl true) (.cons (.bl false) (.cons (.int (-1)) (.cons (.int 0) (.cons (.int 1) (.cons (.int (10 ^ 39)) (.cons (.str "") (.cons (.str "0") (.cons y1 (.cons y2 (.cons y3 (.cons y4 (.cons y5 (.cons y7 (.cons y8 (.cons x11 .nil))))))))))))))))
    have all' := all.kn (o := .lst [.non, .bl true, .bl false, .int (-1), .int 0, .int 1, .int (10 ^ 39), .str "", .str "0", .ref a1, .ref a2, .ref a3, .ref a4, .ref a5, .ref a7, .ref a8, .ref a11]) nl
    have dl := d11.new (o := .lst [.non, .bl true, .bl false, .int (-1), .int 0, .int 1, .int (10 ^ 39), .str "", .str "0", .ref a1, .ref a2, .ref a3, .ref a4, .ref a5, .ref a7, .ref a8, .ref a11]) nl
    have nel := d11.ne nl
    have tl := t11.upd (p := l) (o := .lst [.non, .bl true, .bl false, .int (-1), .int 0, .int 1, .int (10 ^ 39), .str "", .str "0", .ref a1, .ref a2, .ref a3, .ref a4, .ref a5, .ref a7, .ref a8, .ref a11])
    refine ⟨.ref l, rfl, .ref D, rfl, D, C, R, b, 17, rfl, by decide, by decide, dl, by omega, fun H2 k kp d2 c1 c2 => ?_⟩
    have el := kp l _ upd_same (notDR nel.1 nel.2.2)
    have all2 := all'.keep (kp.mono (by intro z hz; simp only [List.mem_cons, List.not_mem_nil, or_false] at hz; rcases hz with hz | hz <;> (subst hz; assumption)))
    have hk : k.toNat < oddD.length := by show k.toNat < 17; omega
    have ek : oddD[k.toNat]? = some (oddD[k.toNat]'hk) := List.getElem?_eq_getElem hk
    obtain ⟨v, ev, dv⟩ := all2.get k.toNat ek
    refine ⟨l, _, k, v, rfl, rfl, SqL.of el, atI_of c1 ev, ?_⟩
    exact q H2 v _ (k11.trans ((Keep.new nl).trans kp)) d2 dv (odd_small _ (List.getElem_mem hk)) (tl.keep kp d2)
end
end Rw

namespace Rw
open PySem PySem.Spec PyProof.Rows L2
theorem subDR {D R : Addr} {av : List Addr} (mD : D ∈ av) (mR : R ∈ av) : ∀ z ∈ [D, R], z ∈ av := fun z hz => by
  simp only [List.mem_cons, List.not_mem_nil, or_false] at hz
  rcases hz with hz | hz <;> (subst hz; assumption)
abbrev besD (i : Int) : List PyData := [.int (i + 1), .int (i - 1), .bool (decide (V.int i = V.int 1)), .int (0 - i), .int (10 ^ 12 + 1), .int (10 ^ 6 + 1), .int (i + 16), .str (Str.ofString (toString i))]
theorem bes_small {M : Nat} {i : Int} (hM : 10 ^ 39 ≤ M) (hM2 : M + 16 ≤ big) (h : i.natAbs ≤ M) : ∀ d ∈ besD i, leafy (M + 16) d ∧ d.depth = 0 ∧ cnt d = 1 := by
  intro d hd
  have z1 : (reprText (Str.ofString (toString i))).length ≤ 2000 := reprs_int (by omega)
  simp only [besD, List.mem_cons, List.not_mem_nil, or_false] at hd
  rcases hd with e | e | e | e | e | e | e | e <;> subst e <;> refine ⟨?_, ?_, ?_⟩ <;> simp only [leafy, cnt, PyData.depth] <;> first | trivial | exact z1 | omega
section
variable {P : Program} {w : World} {K : PySem.W.Frag} {mg : Str → Option Value} {base : Heap}
abbrev sOther : Stmt := topS 19
theorem scOther : FnScope ["_law_deck_here", "_law_thing", "_law_course", "_law_beside"] ["_law_deck_here", "_law_thing"] (defScope sOther) := ⟨rfl, rfl, rfl, by decide +kernel, rfl, by decide +kernel, by decide +kernel⟩
def spOther : Sp := fun vs H Q _ => ∃ (D C R : Addr) (b : Int) (av : List Addr) (v : V) (d : PyData) (M m n : Nat), vs = [.ref D, v] ∧ Dt av H v d ∧ Sm M m n d ∧ 10 ^ 39 ≤ M ∧ M + 16 ≤ big ∧ Deck H D C R b ∧ b ≤ 700000000 ∧ Tr av H ∧ D ∈ av ∧ R ∈ av ∧
  ∀ H' (p : Addr) (us : List V) (ds : List PyData), Keep [D, R] H H' → Deck H' D C R (b + 3) → H' p = some (.lst us) → Dts av H' us ds → leafys (M + 16) ds → PyData.depthAll ds ≤ max m 2 → cnts ds ≤ 2 * n + 10 → ds.length ≤ 2 → Tr av H' → Q (.ref p) H'
theorem one_of {M : Nat} {d : PyData} {m n : Nat} (h : leafy M d) (h2 : d.depth ≤ m) (h3 : cnt d ≤ n) : leafys M [d] ∧ PyData.depthAll [d] ≤ m ∧ cnts [d] ≤ n := by
  simp only [leafys, PyData.depthAll, cnts]
  exact ⟨⟨h, trivial⟩, by omega, by omega⟩
theorem leafys_rev {M : Nat} : ∀ {xs : List PyData}, leafys M xs → leafys M xs.reverse
  | [], _ => by simp [leafys]
  | x :: xs, h => by
    simp only [leafys] at h
    rw [List.reverse_cons, leafys_app]
    exact ⟨leafys_rev h.2, by simp only [leafys]; exact ⟨h.1, trivial⟩⟩
theorem cnts_rev : ∀ xs : List PyData, cnts xs.reverse = cnts xs
  | [] => rfl
  | x :: xs => by rw [List.reverse_cons, cnts_app, cnts_rev xs]; simp only [cnts]; omega
theorem depth_rev : ∀ xs : List PyData, PyData.depthAll xs.reverse = PyData.depthAll xs
  | [] => rfl
  | x :: xs => by rw [List.reverse_cons, depth_app, depth_rev xs]; simp only [PyData.depthAll]; omega
theorem ok_other (h : Has K mg "_law_otherwise" sOther) (B : Blt mg) (CN : Can P w K mg base "_law_next" ["_law_deck_here", "_law_many"] 1 spNext) (CO : Can P w K mg base "_law_odd" ["_law_deck_here"] 2 spOdd) :
    Can P w K mg base "_law_otherwise" ["_law_deck_here", "_law_thing"] 3 spOther := by
  obtain ⟨f, fd, F, g⟩ := h
  refine ⟨f, fd, F.ok (k := 2) scOther (fun vs H Q E h => ?_) (fun cdv A outer s H vs Q E hr h => ?_), g, F.kp, F.binds fun _ _ _ _ _ _ us hl => match us, hl with | [_, _], _ => rfl⟩
  · obtain ⟨D, C, R, b, av, v, d, M, m, n, rfl, _⟩ := h
    rfl
  · obtain ⟨D, C, R, b, av, v, d, M, m, n, rfl, dv, sm, M1, M2, dk, hb, tr, mD, mR, q⟩ := h
    refine ⟨_, pss_cons (ps_set (i := 2) scOther.nd rfl (.inl rfl) (pe_can CN (hr.mono (by decide)) (by rfl) (pa_cons (pv 0) (pa_cons pe_int pa_nil))))
      (pss_cons (ps_if (PW.pt (pw_and (pt_val (pe_callB (call_isD kit_int) (by rfl) B.isi boot_isinstance (pa_cons (pv 1) (pa_cons (pe_bltn (v := .ty "int") (by rfl) B.int_ boot_int rfl) pa_nil))))
          (pw_and (pt_not (pt_val (pe_callB (call_isD kit_bool) (by rfl) B.isi boot_isinstance (pa_cons (pv 1) (pa_cons (pe_bltn (v := .ty "bool") (by rfl) B.bool_ boot_bool rfl) pa_nil))))) (pw_and1 (pt_cmpR op_lt (pv 2) pe_int (nomark _))))))
        (pss_cons (ps_set (i := 3) scOther.nd rfl (.inl rfl) (pe_lst (pa_cons (pe_op op_add (pv 1) pe_int) (pa_cons (pe_op op_sub (pv 1) pe_int) (pa_cons (pe_cmpR op_eq (pv 1) pe_int (nomark _)) (pa_cons (pe_op op_sub pe_int (pv 1))
          (pa_cons (pe_op op_add (pe_op op_pow pe_int pe_int) pe_int) (pa_cons (pe_op op_add (pe_op op_pow pe_int pe_int) pe_int) (pa_cons (pe_op op_add (pv 1) pe_int) (pa_cons (pe_callTy call_str_int (by rfl) B.str_ boot_str (pa_cons (pv 1) pa_nil)) pa_nil))))))))))
        (pss_one (ps_ret (pe_lst (pa_cons (pe_ix ix_list (pv 3) (pe_can CN (hr.mono (by decide)) (by rfl) (pa_cons (pv 0) (pa_cons pe_int pa_nil))) (fun _ _ => rfl)) pa_nil))))) pss_nil)
      (pss_cons (ps_if (PW.pt (pw_and (pt_val (pe_callB (call_isD kit_tup) (by rfl) B.isi boot_isinstance (pa_cons (pv 1) (pa_cons (pe_bltn (v := .ty "tuple") (by rfl) B.tuple_ boot_tuple rfl) pa_nil)))) (pw_and1 (pt_cmpR op_lt (pv 2) pe_int (nomark _)))))
        (pss_one (ps_ret (pe_lst (pa_cons (pe_ix ix_list (pe_lst (pa_cons (pe_callTy call_listN (by rfl) B.list_ boot_list (pa_cons (pv 1) pa_nil)) (pa_cons (pe_back (pv 1)) pa_nil))) (pv 2) (fun _ _ => rfl)) pa_nil)))) pss_nil)
      (pss_cons (ps_if (pt_cmpR op_eq (pv 2) pe_int (nomark _)) (pss_one (ps_ret (pe_lst pa_nil))) pss_nil)
      (pss_cons (ps_if (pt_cmpR op_eq (pv 2) pe_int (nomark _)) (pss_one (ps_ret (pe_lst (pa_cons (pv 1) (pa_cons (pv 1) pa_nil))))) pss_nil)
      (pss_one (ps_ret (pe_lst (pa_cons (pe_can CO hr (by rfl) (pa_cons (pv 0) pa_nil)) pa_nil)))))))), ?_⟩
    refine ⟨.ref D, rfl, D, C, R, b, 9, rfl, by decide, by decide, dk, by omega, fun H1 c k1 d1 c0 c1 => ?_⟩
    have sub := subDR mD mR
    have dv1 := dv.keep (k1.mono sub)
    have tr1 := tr.keep k1 d1
    -- what comes behind the two first tests
    have ends : ∀ (H2 : Hp) (us : List V) (ds : List PyData) (b2 : Int), Keep [D, R] H H2 → Deck H2 D C R b2 → b2 ≤ b + 3 → Dts av H2 us ds → leafys (M + 16) ds → PyData.depthAll ds ≤ max m 2 → cnts ds ≤ 2 * n + 10 → ds.length ≤ 2 → ∀ p, H2 p = none → Q (.ref p) (upd H2 p (.lst us)) :=
      fun H2 us ds b2 k2 d2 hb2 x1 x2 x3 x4 x5 p np => q _ p us ds (k2.trans (Keep.new np)) ((d2.new np).mono hb2) upd_same (x1.kn np) x2 x3 x4 x5 (tr.keep k2 d2).upd
    have hct := cnt_pos d
    have smc := sm.ct
    have lfd : leafy (M + 16) d := leafy_mono (by omega) d sm.lf
    have self1 := one_of lfd sm.dp sm.ct
    -- the last tests
    have last : ∀ p, H1 p = none → True := fun _ _ => trivial
    refine ⟨v, rfl, v, d, av, rfl, dv1, _, rfl, ite2 (fun e => ⟨v, rfl, v, d, av, rfl, dv1, _, rfl, ite2 (fun e2 => ⟨.int c, rfl, c, 5, rfl, rfl, _, rfl, ite2 (fun e3 => ?yes) (fun e3 => ?no3)⟩) (fun e2 => ?no2)⟩) (fun e => ?no1)⟩
    case yes =>
      cases dv1 <;> first | (cases e; done) | (cases e2; done) | skip
      rename_i i
      have hi : i.natAbs ≤ M := by have := sm.lf; simp only [leafy] at this; exact this
      refine ⟨.int i, rfl, i, 1, rfl, rfl, .int i, rfl, i, 1, rfl, rfl, .int i, rfl, rfl, .int i, rfl, 0, i, rfl, rfl, 10, 12, rfl, rfl, ⟨by decide, by decide, by decide⟩, _, 1, rfl, rfl, 10, 6, rfl, rfl, ⟨by decide, by decide, by decide⟩, _, 1, rfl, rfl, .int i, rfl, i, 16, rfl, rfl, .int i, rfl, i, rfl, log2_big (by omega), show 8 ≤ sizeLine by decide, fun l nl => ?_⟩
      have nel := d1.ne nl
      refine ⟨.ref l, rfl, .ref D, rfl, D, C, R, b + 1, 8, rfl, by decide, by decide, d1.new nl, by omega, fun H2 k k2 d2 a1 a2 => ?_⟩
      have el := k2 l _ upd_same (notDR nel.1 nel.2.2)
      have all : Dts av H2 [.int (i + 1), .int (i - 1), .bl (decide (V.int i = V.int 1)), .int (0 - i), .int (10 ^ 12 + 1), .int (10 ^ 6 + 1), .int (i + 16), .str (Str.ofString (toString i))] (besD i) :=
        .cons (.int _) (.cons (.int _) (.cons (.bl _) (.cons (.int _) (.cons (.int _) (.cons (.int _) (.cons (.int _) (.cons (.str _) .nil)))))))
      have hk : k.toNat < (besD i).length := by show k.toNat < 8; omega
      have ek : (besD i)[k.toNat]? = some ((besD i)[k.toNat]'hk) := List.getElem?_eq_getElem hk
      obtain ⟨x, ex, dx⟩ := all.get k.toNat ek
      have bs := bes_small M1 M2 hi _ (List.getElem_mem hk)
      obtain ⟨o1, o2, o3⟩ := one_of (m := max m 2) (n := 2 * n + 10) bs.1 (by rw [bs.2.1]; omega) (by rw [bs.2.2]; omega)
      refine ⟨l, _, k, x, rfl, rfl, SqL.of el, atI_of a1 ex, show 1 ≤ sizeLine by decide, ?_⟩
      exact ends H2 [x] _ (b + 1 + 1) (k1.trans ((Keep.new nl).trans k2)) d2 (by omega) (.cons dx .nil) o1 o2 o3 (by show 1 ≤ 2; decide)
    all_goals
      refine ⟨v, rfl, v, d, av, rfl, dv1, _, rfl, ite2 (fun f => ⟨.int c, rfl, c, 2, rfl, rfl, _, rfl, ite2 (fun f3 => ?_) (fun f3 => ?_)⟩) (fun f => ?_)⟩
      · have c2 : c < 2 := of_decide_eq_true f3
        cases dv1 <;> first | (cases f; done) | skip
        rename_i a xs ds na ea hs
        have lf := sm.lf
        have dp := sm.dp
        simp only [leafy] at lf
        simp only [PyData.depth] at dp
        simp only [cnt] at smc
        have lf' : leafys (M + 16) ds := leafys_mono (by omega) ds lf
        refine ⟨.ref a, rfl, a, xs, rfl, SqT.of ea, fun l1 nl1 ql1 => ?_⟩
        have ea2 : (upd H1 l1 (.lst xs)) a = some (.tup xs) := by rw [upd_ne (ne_of_none ea nl1)]; exact ea
        refine ⟨.ref a, rfl, a, xs, rfl, SqT.of ea2, fun l2 nl2 => ?_⟩
        have x1 : Dt av (upd (upd H1 l1 (.lst xs)) l2 (.tup xs.reverse)) (.ref l1) (.list ds) := (Dt.newL tr1 nl1 ql1 hs).kn nl2
        have x2 : Dt av (upd (upd H1 l1 (.lst xs)) l2 (.tup xs.reverse)) (.ref l2) (.tuple ds.reverse) := Dt.newT tr1.upd nl2 (hs.kn nl1).rev
        refine ⟨show 2 ≤ sizeLine by decide, fun l3 nl3 => ?_⟩
        have kk : Keep [D, R] H1 (upd (upd (upd H1 l1 (.lst xs)) l2 (.tup xs.reverse)) l3 (.lst [.ref l1, .ref l2])) := (Keep.new nl1).trans ((Keep.new nl2).trans (Keep.new nl3))
        have dd : Deck (upd (upd (upd H1 l1 (.lst xs)) l2 (.tup xs.reverse)) l3 (.lst [.ref l1, .ref l2])) D C R (b + 1) := ((d1.new nl1).new nl2).new nl3
        by_cases h0 : c = 0
        · subst h0
          refine ⟨.int 0, rfl, l3, _, 0, .ref l1, rfl, rfl, SqL.of upd_same, atI_nat (j := 0) rfl, show 1 ≤ sizeLine by decide, ?_⟩
          obtain ⟨o1, o2, o3⟩ := one_of (M := M + 16) (d := .list ds) (m := max m 2) (n := 2 * n + 10) (by simp only [leafy]; exact lf') (by simp only [PyData.depth]; omega) (by simp only [cnt]; omega)
          exact ends _ [.ref l1] _ (b + 1) (k1.trans kk) dd (by omega) (.cons (x1.kn nl3) .nil) o1 o2 o3 (by show 1 ≤ 2; decide)
        · obtain rfl : c = 1 := by omega
          refine ⟨.int 1, rfl, l3, _, 1, .ref l2, rfl, rfl, SqL.of upd_same, atI_nat (j := 1) rfl, show 1 ≤ sizeLine by decide, ?_⟩
          obtain ⟨o1, o2, o3⟩ := one_of (M := M + 16) (d := .tuple ds.reverse) (m := max m 2) (n := 2 * n + 10) (by simp only [leafy]; exact leafys_rev lf') (by simp only [PyData.depth]; rw [depth_rev]; omega) (by simp only [cnt]; rw [cnts_rev]; omega)
          exact ends _ [.ref l2] _ (b + 1) (k1.trans kk) dd (by omega) (.cons (x2.kn nl3) .nil) o1 o2 o3 (by show 1 ≤ 2; decide)
      all_goals
        refine ⟨.int c, rfl, rfl, _, rfl, ite2 (fun _ => ⟨show 0 ≤ sizeLine by decide, ends H1 [] [] (b + 1) k1 d1 (by omega) .nil (by simp only [leafys]) (by simp only [PyData.depthAll]; omega) (by simp only [cnts]; omega) (by decide)⟩) (fun _ => ?_)⟩
        refine ⟨.int c, rfl, rfl, _, rfl, ite2 (fun _ => ⟨v, rfl, v, rfl, show 2 ≤ sizeLine by decide, ends H1 [v, v] [d, d] (b + 1) k1 d1 (by omega) (.cons dv1 (.cons dv1 .nil)) (by simp only [leafys]; exact ⟨lfd, lfd, trivial⟩) (by have := sm.dp; simp only [PyData.depthAll]; omega) (by simp only [cnts]; omega) (by show 2 ≤ 2; decide)⟩) (fun _ => ?_)⟩
        refine ⟨.ref D, rfl, D, C, R, b + 1, av, rfl, d1, by omega, tr1, mD, mR, fun H2 x dx k2 d2 xd xs _ => ?_⟩
        obtain ⟨o1, o2, o3⟩ := one_of (M := M + 16) (m := max m 2) (n := 2 * n + 10) (leafy_mono (by omega) dx xs.lf) (by have := xs.dp; omega) (by have := xs.ct; omega)
        exact ⟨show 1 ≤ sizeLine by decide, ends H2 [x] [dx] (b + 1 + 1) (k1.trans k2) d2 (by omega) (.cons xd .nil) o1 o2 o3 (by show 1 ≤ 2; decide)⟩
end
end Rw

namespace Rw
open PySem PySem.Spec PyProof.Rows L2
/-! ### tuples cut and joined, as data -/
theorem sl_take {K : PySem.W.Frag} {av : List Addr} {H : Hp} {v : V} {ds : List PyData} {Q : VK} (k : Nat) (x : Dt av H v (.tuple ds)) (t : Tr av H) (q : ∀ H' v', Keep [] H H' → Tr av H' → Dt av H' v' (.tuple (ds.take k)) → Q v' H') : rSlA K v none (some (k : Int)) H Q := by
  cases x with
  | tup na ea da =>
    refine ⟨_, _, rfl, SqT.of ea, fun hw => ?_, fun hw p np => ?_⟩
    · have h2 := hw.2
      rw [HT.sIx_nat] at h2
      have e : ds.take k = ds := List.take_of_length_le (by rw [← da.len]; omega)
      exact q H _ (Keep.refl _ _) t (by rw [e]; exact .tup na ea da)
    · rw [cut_to]; exact q _ _ (Keep.new np) t.upd (Dt.newT t np (da.take k))
theorem sl_drop {K : PySem.W.Frag} {av : List Addr} {H : Hp} {v : V} {ds : List PyData} {Q : VK} (k : Nat) (x : Dt av H v (.tuple ds)) (t : Tr av H) (q : ∀ H' v', Keep [] H H' → Tr av H' → Dt av H' v' (.tuple (ds.drop k)) → Q v' H') : rSlA K v (some (k : Int)) none H Q := by
  cases x with
  | tup na ea da =>
    refine ⟨_, _, rfl, SqT.of ea, fun hw => ?_, fun hw p np => ?_⟩
    · have h2 := hw.1
      rw [HT.sIx_nat] at h2
      have e : ds.drop k = ds := by
        have ln := da.len
        by_cases hk : k = 0
        · rw [hk]; rfl
        · have : ds.length = 0 := by omega
          cases ds with
          | nil => exact List.drop_nil
          | cons _ _ => cases this
      exact q H _ (Keep.refl _ _) t (by rw [e]; exact .tup na ea da)
    · rw [cut_from]; exact q _ _ (Keep.new np) t.upd (Dt.newT t np (da.drop k))
theorem cat_any {K : PySem.W.Frag} {av : List Addr} {H : Hp} {v1 v2 : V} {d1 d2 : List PyData} {Q : VK} (x : Dt av H v1 (.tuple d1)) (y : Dt av H v2 (.tuple d2)) (hl : d1.length + d2.length ≤ sizeLine) (t : Tr av H)
    (q : ∀ H' v', Keep [] H H' → Tr av H' → Dt av H' v' (.tuple (d1 ++ d2)) → Q v' H') : rCatA K v1 v2 H Q := by
  cases x with
  | tup na ea da =>
    cases y with
    | tup nb eb db =>
      refine ⟨_, _, _, _, rfl, rfl, SqT.of ea, SqT.of eb, by rw [da.len, db.len]; exact hl, fun e => ?_, fun _ e => ?_, fun _ _ p np => ?_⟩
      · have e' : d1 = [] := by
          have := da.len
          rw [e] at this
          exact List.eq_nil_of_length_eq_zero this.symm
        subst e'
        exact q H _ (Keep.refl _ _) t (.tup nb eb db)
      · have e' : d2 = [] := by
          have := db.len
          rw [e] at this
          exact List.eq_nil_of_length_eq_zero this.symm
        subst e'
        exact q H _ (Keep.refl _ _) t (by rw [List.append_nil]; exact .tup na ea da)
      · exact q _ _ (Keep.new np) t.upd (Dt.newT t np (da.app db))
theorem tw {c : TT} {tb : TS} {D : Ends} {σ : L2.St} {H : Hp} (W : Nat → L2.St → Hp → Prop) (Ex : L2.St → Hp → Prop) (m : Nat) (h0 : W m σ H) (hd : ∀ σ H, Ex σ H → D.nx σ H)
    (hs : (∀ σ H, Ex σ H → D.nx σ H) → ∀ m σ H, W m σ H → c σ H fun b H1 => if b = true then ∃ N : L2.St → Hp → Prop, (∀ σ' H', N σ' H' → ∃ m', m' < m ∧ W m' σ' H') ∧ tb { D with nx := N, ct := N, bk := D.nx } σ H1 else D.nx σ H1) : tWhile c tb D σ H :=
  ⟨W, ⟨m, h0⟩, hs hd⟩
/-! ### the way down into a thing -/
inductive Chain (d : PyData) : List (List PyData × Nat) → PyData → Prop
  | nil : Chain d [] d
  | snoc {p : List (List PyData × Nat)} {ds : List PyData} {s : Nat} {e : PyData} : Chain d p (.tuple ds) → ds[s]? = some e → Chain d (p ++ [(ds, s)]) e
theorem Chain.inv {d e : PyData} {q : List (List PyData × Nat)} (c : Chain d q e) {p : List (List PyData × Nat)} {ds : List PyData} {s : Nat} (h : q = p ++ [(ds, s)]) : Chain d p (.tuple ds) ∧ ds[s]? = some e := by
  cases c with
  | nil => exact absurd h.symm (by simp)
  | snoc c1 h1 =>
    obtain ⟨e1, e2⟩ := List.append_inj' h rfl
    cases e2
    subst e1
    exact ⟨c1, h1⟩
theorem Chain.top {d e : PyData} {q : List (List PyData × Nat)} (c : Chain d q e) (h : q = []) : e = d := by
  cases c with
  | nil => rfl
  | snoc c1 h1 => exact absurd h (by simp)
theorem lay_mem : ∀ {xs : List PyData} {d : PyData}, PyData.canLayAll0 xs = true → d ∈ xs → d.canLay0 = true
  | x :: xs, d, h, m => by
    simp only [PyData.canLayAll0, Bool.and_eq_true] at h
    rcases List.mem_cons.mp m with m | m
    · rw [m]; exact h.1
    · exact lay_mem h.2 m
theorem Chain.facts {M : Nat} {d e : PyData} {q : List (List PyData × Nat)} (c : Chain d q e) (hl : leafy M d) : leafy M e ∧ e.depth + q.length ≤ d.depth ∧ cnt e ≤ cnt d ∧ (d.canLay0 = true → e.canLay0 = true) := by
  induction c with
  | nil => exact ⟨hl, by simp, Nat.le_refl _, id⟩
  | snoc c1 h1 ih =>
    obtain ⟨i1, i2, i3, i4⟩ := ih
    have m := List.mem_of_getElem? h1
    have z1 := depth_mem m
    have z2 := cnts_mem m
    simp only [leafy] at i1
    simp only [PyData.depth] at i2
    simp only [cnt] at i3
    refine ⟨leafys_mem i1 m, by rw [List.length_append, List.length_singleton]; omega, by omega, fun h => ?_⟩
    have := i4 h
    simp only [PyData.canLay0] at this
    exact lay_mem this m
def pD (x : List PyData × Nat) : PyData := .tuple [.tuple x.1, .int x.2]
theorem swap_part {M : Nat} {ds new : List PyData} {s : Nat} {e : PyData} (he : ds[s]? = some e) (h1 : leafys M ds) (h2 : leafys M new) (h3 : PyData.depthAll new ≤ e.depth + 2) (h4 : cnts new ≤ 2 * cnt e + 10) :
    leafys M [.tuple (ds.take s ++ new ++ ds.drop (s + 1))] ∧ PyData.depthAll [.tuple (ds.take s ++ new ++ ds.drop (s + 1))] ≤ (PyData.tuple ds).depth + 2 ∧ cnts [.tuple (ds.take s ++ new ++ ds.drop (s + 1))] ≤ 2 * cnt (.tuple ds) + 10 := by
  have hs : s < ds.length := (List.getElem?_eq_some_iff.mp he).1
  have e0 : ds = ds.take s ++ (e :: ds.drop (s + 1)) := by
    have e1 : ds[s] = e := (List.getElem?_eq_some_iff.mp he).2
    rw [← e1, List.getElem_cons_drop, List.take_append_drop]
  have l0 : leafys M (ds.take s ++ (e :: ds.drop (s + 1))) := e0 ▸ h1
  rw [leafys_app] at l0
  have l1 := l0.2
  simp only [leafys] at l1
  have c0 : cnts ds = cnts (ds.take s) + (cnt e + cnts (ds.drop (s + 1))) := by
    have := congrArg cnts e0
    rw [cnts_app] at this
    simp only [cnts] at this
    exact this
  have d0 : PyData.depthAll ds = max (PyData.depthAll (ds.take s)) (max e.depth (PyData.depthAll (ds.drop (s + 1)))) := by
    have := congrArg PyData.depthAll e0
    rw [depth_app] at this
    simp only [PyData.depthAll] at this
    exact this
  have p1 := cnt_pos e
  refine ⟨?_, ?_, ?_⟩
  · simp only [leafys, leafy]
    rw [leafys_app, leafys_app]
    exact ⟨⟨⟨l0.1, h2⟩, l1.2⟩, trivial⟩
  · simp only [PyData.depthAll, PyData.depth]
    rw [depth_app, depth_app]
    omega
  · simp only [cnts, cnt]
    rw [cnts_app, cnts_app]
    omega
section
variable {P : Program} {w : World} {K : PySem.W.Frag} {mg : Str → Option Value} {base : Heap}
abbrev sSpoilt : Stmt := topS 20
abbrev nSpoilt : List Str := ["_law_deck_here", "_law_thing", "_law_path", "_law_one_here", "_law_spot", "_law_new", "_law_outer"]
theorem scSpoilt : FnScope nSpoilt ["_law_deck_here", "_law_thing"] (defScope sSpoilt) := ⟨rfl, rfl, rfl, by decide +kernel, rfl, by decide +kernel, by decide +kernel⟩
def spSpoilt : Sp := fun vs H Q _ => ∃ (D C R : Addr) (b : Int) (av : List Addr) (v : V) (d : PyData) (M m n : Nat), vs = [.ref D, v] ∧ Dt av H v d ∧ Sm M m n d ∧ d.canLay0 = true ∧ m ≤ 20 ∧ n ≤ 100000 ∧ 10 ^ 39 ≤ M ∧ M + 16 ≤ big ∧ Deck H D C R b ∧ b ≤ 600000000 ∧ Tr av H ∧ D ∈ av ∧ R ∈ av ∧
  ∀ H' (x : V) (dx : PyData), Keep [D, R] H H' → Deck H' D C R (b + 100) → Dt av H' x dx → Sm (M + 16) (m + 2) (2 * n + 10) dx → Tr av H' → Q x H'
theorem len_cnts : ∀ ds : List PyData, ds.length ≤ cnts ds
  | [] => by simp
  | d :: ds => by
    have := len_cnts ds
    have := cnt_pos d
    rw [List.length_cons]
    simp only [cnts]
    omega
theorem ok_spoilt (h : Has K mg "_law_spoilt" sSpoilt) (B : Blt mg) (CN : Can P w K mg base "_law_next" ["_law_deck_here", "_law_many"] 1 spNext) (CO : Can P w K mg base "_law_otherwise" ["_law_deck_here", "_law_thing"] 3 spOther) :
    Can P w K mg base "_law_spoilt" ["_law_deck_here", "_law_thing"] 4 spSpoilt := by
  obtain ⟨f, fd, F, g⟩ := h
  refine ⟨f, fd, F.ok (k := 3) scSpoilt (fun vs H Q E h => ?_) (fun cdv A outer s H vs Q E hr h => ?_), g, F.kp, F.binds fun _ _ _ _ _ _ us hl => match us, hl with | [_, _], _ => rfl⟩
  · obtain ⟨D, C, R, b, av, v, d, M, m, n, rfl, _⟩ := h
    rfl
  · obtain ⟨D, C, R, b, av, v, d, M, m, n, rfl, dv, sm, cl, m20, n1, M1, M2, dk, hb, tr, mD, mR, q⟩ := h
    refine ⟨_, pss_cons (ps_set (i := 2) scSpoilt.nd rfl (.inl rfl) (pe_lst pa_nil))
      (pss_cons (ps_set (i := 3) scSpoilt.nd rfl (.inl rfl) (pv 1))
      (pss_cons (ps_while PassesOwn.never (PW.pt (pw_and (pt_val (pe_callB (call_isD kit_tup) (by rfl) B.isi boot_isinstance (pa_cons (pv 3) (pa_cons (pe_bltn (v := .ty "tuple") (by rfl) B.tuple_ boot_tuple rfl) pa_nil))))
          (pw_and (pt_cmpR (op_neD hr.units) (pv 3) (pe_tup pa_nil) (nomark _)) (pw_and1 (pt_cmpR op_gt (pe_can CN (hr.mono (by decide)) (by rfl) (pa_cons (pv 0) (pa_cons pe_int pa_nil))) pe_int (nomark _))))))
        (pss_cons (ps_set (i := 4) scSpoilt.nd rfl (.inl rfl) (pe_can CN (hr.mono (by decide)) (by rfl) (pa_cons (pv 0) (pa_cons (pe_callB call_len_seq (by rfl) B.len_ PySem.boot_len (pa_cons (pv 3) pa_nil)) pa_nil))))
        (pss_cons (ps_expr (pe_bm PySem.F.plainAttrs_list PySem.F.slot_list_append PySem.F.type_list_append mt_append (pv 2) (pa_cons (pe_tup (pa_cons (pv 3) (pa_cons (pv 4) pa_nil))) pa_nil)))
        (pss_one (ps_set (i := 3) scSpoilt.nd rfl (.inl rfl) (pe_ix ix_tup (pv 3) (pv 4) (fun _ _ => rfl)))))))
      (pss_cons (ps_set (i := 5) scSpoilt.nd rfl (.inl rfl) (pe_can CO hr (by rfl) (pa_cons (pv 0) (pa_cons (pv 3) pa_nil))))
      (pss_cons (ps_for PassesOwn.never rfl (RT.pi_revA (by rfl) B.reversed_ (pv 2)) (pg_tup (by rfl) (pgs_cons (pg_name (i := 6) scSpoilt.nd rfl (.inl rfl)) (pgs_cons (pg_name (i := 4) scSpoilt.nd rfl (.inl rfl)) pgs_nil)))
        (pss_one (ps_set (i := 5) scSpoilt.nd rfl (.inl rfl) (pe_lst (pa_cons (pe_op op_catA (pe_op op_catA (pe_slice sl_tupA (pv 6) po_none (po_some (pv 4))) (pe_callTy call_tuple_of (by rfl) B.tuple_ boot_tuple (pa_cons (pv 5) pa_nil)))
          (pe_slice sl_tupA (pv 6) (po_some (pe_op op_add (pv 4) pe_int)) po_none)) pa_nil)))))
      (pss_one (ps_ret (pe_ix ix_list (pe_op op_cat (pv 5) (pe_lst (pa_cons pe_non pa_nil))) pe_int (fun _ _ => rfl)))))))), ?_⟩
    refine ⟨show 0 ≤ sizeLine by decide, fun Pp nP => ⟨v, rfl, ?_⟩⟩
    have zP := dk.ne nP
    have dv0 : Dt (Pp :: av) (upd H Pp (.lst [])) v d := (dv.more nP).keep (Keep.new nP)
    have tr0 : Tr (Pp :: av) (upd H Pp (.lst [])) := (tr.upd).cons upd_same
    have mD' : D ∈ Pp :: av := List.mem_cons_of_mem _ mD
    have mR' : R ∈ Pp :: av := List.mem_cons_of_mem _ mR
    have sub := subDR mD' mR'
    refine tw (fun k σ G => ∃ (path : List (List PyData × Nat)) (us : List V) (e : PyData) (ve : V) (s4 : Option V), σ = [some (.ref D), some v, some (.ref Pp), some ve, s4, none, none] ∧ Keep [D, R] H G ∧ Deck G D C R (b + 2 * path.length) ∧ Tr (Pp :: av) G ∧ G Pp = some (.lst us) ∧ Dts (Pp :: av) G us (path.map pD) ∧ Dt (Pp :: av) G ve e ∧ Chain d path e ∧ e.depth ≤ k)
      (fun σ G => ∃ (path : List (List PyData × Nat)) (us : List V) (e : PyData) (ve : V) (s4 : Option V), σ = [some (.ref D), some v, some (.ref Pp), some ve, s4, none, none] ∧ Keep [D, R] H G ∧ Deck G D C R (b + 2 * path.length + 1) ∧ Tr (Pp :: av) G ∧ G Pp = some (.lst us) ∧ Dts (Pp :: av) G us (path.map pD) ∧ Dt (Pp :: av) G ve e ∧ Chain d path e)
      d.depth ⟨[], [], d, v, none, rfl, Keep.new nP, (dk.new nP).mono (by simp), tr0, upd_same, .nil, dv0, .nil, Nat.le_refl _⟩ (fun σ G p => ?_) (fun exit k σ G p => ?_)
    · -- behind the way down
      obtain ⟨path, us, e, ve, s4, rfl, kG, dG, tG, eP, dts, de, ch⟩ := p
      obtain ⟨f1, f2, f3, f4⟩ := ch.facts sm.lf
      have pl : path.length ≤ 20 := by have := sm.dp; omega
      have smd := sm.dp
      have smc := sm.ct
      refine ⟨.ref D, rfl, ve, rfl, D, C, R, _, Pp :: av, ve, e, M, e.depth, cnt e, rfl, de, ⟨f1, Nat.le_refl _, Nat.le_refl _⟩, M1, M2, dG, by omega, tG, mD', mR', fun G2 pn ns ds k2 d2 epn dn l2 dp2 ct2 ln2 t2 => ?_⟩
      have eP2 := k2 Pp _ eP (notDR zP.1 zP.2.2)
      have dts2 := dts.keep (k2.mono sub)
      have kH2 : Keep [D, R] H G2 := kG.trans k2
      have ul : us.length = path.length := by rw [dts.len, List.length_map]
      refine ⟨.ref Pp, rfl, Pp, us, rfl, .inl ⟨SqL.of eP2, RT.for_Itv (xs := us)
        (fun i σ J => ∃ (s4 s6 : Option V) (pn : Addr) (ns : List V) (ds : List PyData) (e : PyData), σ = [some (.ref D), some v, some (.ref Pp), some ve, s4, some (.ref pn), s6] ∧ Keep [] G2 J ∧ Tr (Pp :: av) J ∧ J pn = some (.lst ns) ∧ Dts (Pp :: av) J ns ds ∧ Chain d (path.take (path.length - i)) e ∧ leafys (M + 16) ds ∧ PyData.depthAll ds ≤ e.depth + 2 ∧ cnts ds ≤ 2 * cnt e + 10 ∧ ds.length ≤ 2)
        ⟨s4, none, pn, ns, ds, e, rfl, Keep.refl _ _, t2, epn, dn, by rw [Nat.sub_zero, List.take_of_length_le (Nat.le_refl _)]; exact ch, l2, by omega, ct2, ln2⟩ (fun i σ J p => ?_) (fun i x σ J hi hx p => ?_) (fun σ J p => ?_)⟩⟩
      · obtain ⟨_, _, _, _, _, _, _, kJ, _⟩ := p
        exact kJ.same.seq (SqL.of eP2)
      · obtain ⟨s4, s6, pn, ns, ds, e, rfl, kJ, tJ, epn, dn, ch, l2, dp2, ct2, ln2⟩ := p
        have hi' : i < path.length := by omega
        have hj : us.length - 1 - i = path.length - 1 - i := by omega
        rw [hj] at hx
        obtain ⟨dd, ed, dx⟩ := (dts2.keep (Keep.of kJ)).getv (path.length - 1 - i) hx
        rw [List.getElem?_map] at ed
        obtain ⟨⟨os, sp⟩, ep, rfl⟩ := Option.map_eq_some_iff.mp ed
        have tk : path.take (path.length - i) = path.take (path.length - (i + 1)) ++ [(os, sp)] := by
          have e1 : path.length - i = (path.length - 1 - i) + 1 := by omega
          have e2 : path.length - (i + 1) = path.length - 1 - i := by omega
          rw [e1, e2, List.take_add_one, ep]; rfl
        obtain ⟨ch', he⟩ := ch.inv tk
        have lo := (ch'.facts sm.lf)
        have lo1 := lo.1
        have lo3 := lo.2.2.1
        simp only [leafy] at lo1
        simp only [cnt] at lo3
        have lenos := len_cnts os
        cases dx with
        | tup nt et dt =>
          cases dt with
          | cons da dt =>
            cases dt with
            | cons db dt =>
              cases dt
              cases db
              rename_i ta vo
              obtain ⟨oa, rfl⟩ : ∃ oa, vo = .ref oa := by cases da; exact ⟨_, rfl⟩
              have da0 : Dt (Pp :: av) J (.ref oa) (.tuple os) := da
              refine ⟨ta, _, rfl, SqT.of et, rfl, .ref oa, _, rfl, .int sp, [], rfl, rfl, ?_⟩
              refine ⟨.ref oa, rfl, .int sp, rfl, sp, rfl, sl_take sp da0 tJ fun J1 v1 k1 t1 x1 => ?_⟩
              have epn1 := k1.same pn _ epn
              have dn1 := dn.keep (Keep.of k1)
              refine ⟨.ref pn, rfl, pn, ns, rfl, .inl ⟨SqL.of epn1, fun T nT => ?_⟩⟩
              have xT := Dt.newT t1 nT dn1
              have x1' := x1.kn (o := .tup ns) nT
              have da1 := (da0.keep (Keep.of k1)).kn (o := .tup ns) nT
              have tk1 : (os.take sp).length ≤ os.length := by rw [List.length_take]; omega
              refine cat_any x1' xT (by rw [sizeLine_eq]; omega) t1.upd fun J2 v2 k2' t2' x2 => ?_
              have da2 := da1.keep (Keep.of k2')
              refine ⟨.ref oa, rfl, .int sp, rfl, sp, 1, rfl, rfl, _, rfl, ?_⟩
              dsimp only [tNoPart]
              rw [show ((sp : Int) + 1) = ((sp + 1 : Nat) : Int) from rfl]
              refine sl_drop (sp + 1) da2 t2' fun J3 v3 k3 t3 x3 => ?_
              have x2' := x2.keep (Keep.of k3)
              refine cat_any x2' x3 (by rw [sizeLine_eq, List.length_append, List.length_drop]; omega) t3 fun J4 v4 k4 t4 x4 => ?_
              refine ⟨show 1 ≤ sizeLine by decide, fun l nl => ?_⟩
              obtain ⟨r1, r2, r3⟩ := swap_part he (leafys_mono (by omega) os lo1) l2 dp2 ct2
              refine ⟨_, _, l, [v4], _, .tuple os, rfl, ?_, t4.upd, upd_same, .cons (x4.kn nl) .nil, ch', r1, r2, r3, by show 1 ≤ 2; decide⟩
              exact kJ.trans (k1.trans ((Keep.new nT).trans (k2'.trans (k3.trans (k4.trans (Keep.new nl))))))
      · obtain ⟨s4, s6, pn, ns, ds, e, rfl, kJ, tJ, epn, dn, ch, l2, dp2, ct2, ln2⟩ := p
        rw [ul, Nat.sub_self, List.take_zero] at ch
        have ee := ch.top rfl
        subst ee
        refine ⟨.ref pn, rfl, show 1 ≤ sizeLine by decide, fun z nz => ?_⟩
        have epz : (upd J z (.lst [.non])) pn = some (.lst ns) := by rw [upd_ne (ne_of_none epn nz)]; exact epn
        have nl := dn.len
        refine ⟨pn, z, ns, [.non], rfl, rfl, epz, upd_same, by rw [sizeLine_eq, List.length_singleton]; omega, fun y ny => ?_⟩
        have kk : Keep [] G2 (upd (upd J z (.lst [.non])) y (.lst (ns ++ [.non]))) := kJ.trans ((Keep.new nz).trans (Keep.new ny))
        have d3 := d2.keep kk
        have t3 : Tr (Pp :: av) (upd (upd J z (.lst [.non])) y (.lst (ns ++ [.non]))) := tJ.upd.upd
        have dn3 := (dn.kn (o := .lst [.non]) nz).kn (o := .lst (ns ++ [.non])) ny
        have wk : ∀ z ∈ av, z ∈ Pp :: av := fun z h => List.mem_cons_of_mem _ h
        have fin : ∀ (x : V) (dx : PyData), Dt (Pp :: av) (upd (upd J z (.lst [.non])) y (.lst (ns ++ [.non]))) x dx → leafy (M + 16) dx → dx.depth ≤ m + 2 → cnt dx ≤ 2 * n + 10 → Q x (upd (upd J z (.lst [.non])) y (.lst (ns ++ [.non]))) := fun x dx h1 h2 h3 h4 =>
          q _ x dx (kH2.trans (Keep.of kk)) (d3.mono (by omega)) (h1.less wk) ⟨h2, h3, h4⟩ (fun a ha => t3 a (wk a ha))
        cases dn with
        | nil => exact ⟨y, _, 0, .non, rfl, rfl, SqL.of upd_same, atI_nat (j := 0) rfl, fin .non .none .non (by simp only [leafy]) (by simp only [PyData.depth]; omega) (by simp only [cnt]; omega)⟩
        | cons hx ht =>
          rename_i x xs dx dxs
          refine ⟨y, _, 0, x, rfl, rfl, SqL.of upd_same, atI_nat (j := 0) rfl, ?_⟩
          simp only [leafys] at l2
          simp only [PyData.depthAll] at dp2
          simp only [cnts] at ct2
          exact fin x dx ((hx.kn nz).kn ny) l2.1 (by omega) (by omega)
    · -- one step down
      obtain ⟨path, us, e, ve, s4, rfl, kG, dG, tG, eP, dts, de, ch, hk⟩ := p
      obtain ⟨f1, f2, f3, f4⟩ := ch.facts sm.lf
      have pl : path.length ≤ 20 := by have := sm.dp; omega
      refine ⟨ve, rfl, ve, e, Pp :: av, rfl, de, _, rfl, ite2 (fun t1 => ?_) (fun t1 => ?_)⟩
      rotate_left
      · exact iteF (exit _ _ ⟨path, us, e, ve, s4, rfl, kG, dG.mono (by omega), tG, eP, dts, de, ch⟩)
      refine ⟨ve, rfl, show 0 ≤ sizeLine by decide, fun c nc => ?_⟩
      have de1 := de.kn (o := .tup []) nc
      have d1 := dG.new (o := .tup []) nc
      have k1 := kG.trans (Keep.new (av := [D, R]) (o := .tup []) nc)
      have t1' := tG.upd (p := c) (o := .tup [])
      have eP1 : (upd G c (.tup [])) Pp = some (.lst us) := by rw [upd_ne (ne_of_none eP nc)]; exact eP
      have dts1 := dts.kn (o := .tup []) nc
      refine ⟨e, .tuple [], Dt.dp e ve de1 (f4 cl), .tup (SqT.of upd_same) .nil, shaped_of (f4 cl) (by have := sm.dp; omega), by decide, _, rfl, ite2 (fun t2 => ?_) (fun t2 => ?_)⟩
      rotate_left
      · exact iteF (exit _ _ ⟨path, us, e, ve, s4, rfl, k1, d1.mono (by omega), t1', eP1, dts1, de1, ch⟩)
      generalize upd G c (.tup []) = G1 at *
      refine ⟨.ref D, rfl, D, C, R, _, 6, rfl, by decide, by decide, d1, by omega, fun G2 k6 k2 d2 _ _ => ⟨_, 0, rfl, rfl, _, rfl, ite2 (fun t3 => ?_) (fun t3 => ?_)⟩⟩
      rotate_left
      · exact exit _ _ ⟨path, us, e, ve, s4, rfl, k1.trans k2, d2, t1'.keep k2 d2, k2 Pp _ eP1 (notDR zP.1 zP.2.2), dts1.keep (k2.mono sub), de1.keep (k2.mono sub), ch⟩
      have de2 := de1.keep (k2.mono sub)
      have eP2 := k2 Pp _ eP1 (notDR zP.1 zP.2.2)
      have dts2 := dts1.keep (k2.mono sub)
      have t2' := t1'.keep k2 d2
      cases de2 <;> first | (cases t1; done) | skip
      rename_i a xs ds na ea hs
      have hpos : 0 < ds.length := by
        rw [eqv_nil] at t2
        cases ds with
        | nil => cases t2
        | cons _ _ => exact Nat.succ_pos _
      have ln := hs.len
      refine ⟨fun σ' H' => ∃ (path' : List (List PyData × Nat)) (us' : List V) (e' : PyData) (ve' : V) (s4' : Option V), σ' = [some (.ref D), some v, some (.ref Pp), some ve', s4', none, none] ∧ Keep [D, R] H H' ∧ Deck H' D C R (b + 2 * path'.length) ∧ Tr (Pp :: av) H' ∧ H' Pp = some (.lst us') ∧ Dts (Pp :: av) H' us' (path'.map pD) ∧ Dt (Pp :: av) H' ve' e' ∧ Chain d path' e' ∧ e'.depth < k, fun σ' H' p => ?_, ?_⟩
      · obtain ⟨path', us', e', ve', s4', p1, p2, p3, p4, p5, p6, p7, p8, p9⟩ := p
        exact ⟨e'.depth, p9, path', us', e', ve', s4', p1, p2, p3, p4, p5, p6, p7, p8, Nat.le_refl _⟩
      have cd := f3
      have smc := sm.ct
      simp only [cnt] at cd
      have lcd := len_cnts ds
      refine ⟨.ref D, rfl, .ref a, rfl, a, xs, rfl, .inr (SqT.of ea), D, C, R, _, _, rfl, by omega, by omega, d2, by omega, fun G3 sp k3 d3 s0 s1 => ?_⟩
      have eP3 := k3 Pp _ eP2 (notDR zP.1 zP.2.2)
      have dts3 := dts2.keep (k3.mono sub)
      have t3' := t2'.keep k3 d3
      have dA : Dt (Pp :: av) G3 (.ref a) (.tuple ds) := (Dt.tup na ea hs).keep (k3.mono sub)
      refine ⟨.ref Pp, rfl, .inl ⟨rfl, _, SqL.of eP3⟩, .ref a, rfl, .int sp, rfl, show 2 ≤ sizeLine by decide, fun t nt => ?_⟩
      have eP4 : (upd G3 t (.tup [.ref a, .int sp])) Pp = some (.lst us) := by rw [upd_ne (ne_of_none eP3 nt)]; exact eP3
      have ul : us.length = path.length := by rw [dts.len, List.length_map]
      refine ⟨Pp, us, .ref t, rfl, rfl, eP4, by rw [ul]; exact small1000 (by omega), ?_⟩
      have hsp : sp.toNat < ds.length := by omega
      have ee : ds[sp.toNat]? = some (ds[sp.toNat]'hsp) := List.getElem?_eq_getElem hsp
      have kp : Keep (Pp :: av) (upd G3 t (.tup [.ref a, .int sp])) (upd (upd G3 t (.tup [.ref a, .int sp])) Pp (.lst (us ++ [.ref t]))) := Keep.put List.mem_cons_self
      have dA5 := (dA.kn (o := .tup [.ref a, .int sp]) nt).keep kp
      have espn : ((sp.toNat : Nat) : Int) = sp := by omega
      have dT : Dt (Pp :: av) (upd G3 t (.tup [.ref a, .int sp])) (.ref t) (pD (ds, sp.toNat)) := by
        show Dt (Pp :: av) (upd G3 t (.tup [.ref a, .int sp])) (.ref t) (.tuple [.tuple ds, .int ((sp.toNat : Nat) : Int)])
        rw [espn]
        exact Dt.newT t3' nt (.cons dA (.cons (.int sp) .nil))
      cases dA5 with
      | tup na5 ea5 hs5 =>
        rename_i xs5
        obtain ⟨vx, evx, dvx⟩ := hs5.get sp.toNat ee
        refine ⟨.ref a, rfl, .int sp, rfl, a, xs5, sp, vx, rfl, rfl, SqT.of ea5, atI_of s0 evx, ?_⟩
        refine ⟨path ++ [(ds, sp.toNat)], us ++ [.ref t], _, vx, _, rfl, ?_, ?_, t3'.upd.upd, upd_same, ?_, dvx, ch.snoc ee, ?_⟩
        · exact ((k1.trans k2).trans (k3.trans (Keep.new nt))).upd nP
        · rw [List.length_append, List.length_singleton]
          exact ((d3.new nt).other zP.1 zP.2.1 zP.2.2).mono (by omega)
        · rw [List.map_append]
          exact ((dts3.kn nt).app (.cons dT .nil)).keep kp
        · have z := depth_mem (List.getElem_mem hsp)
          simp only [PyData.depth] at hk
          omega
end
end Rw

namespace Rw
open PySem PySem.Spec PyProof.Rows L2
theorem st {H : Hp} {p b : Addr} {o u : HO} (n : H p = none) (e : H b = some u) : (upd H p o) b = some u := by rw [upd_ne (ne_of_none e n)]; exact e
def Small (ds : List PyData) : Prop := ∀ d ∈ ds, Sm (10 ^ 39) 2 10 d
theorem Small.app {xs ys : List PyData} (h : Small xs) (k : Small ys) : Small (xs ++ ys) := fun d m => (List.mem_append.mp m).elim (h d) (k d)
theorem small_nil : Small [] := fun _ m => absurd m List.not_mem_nil
theorem two_ints {i j : Int} (hi : i.natAbs ≤ 10 ^ 39) (hj : j.natAbs ≤ 10 ^ 39) : Sm (10 ^ 39) 2 10 (.tuple [.int i, .int j]) := by
  refine ⟨?_, ?_, ?_⟩
  · simp only [leafy, leafys]; exact ⟨hi, hj, trivial⟩
  · simp only [PyData.depth, PyData.depthAll]; omega
  · simp only [cnt, cnts]; omega
abbrev edgeD1 (n : Int) : List PyData := [.tuple [.int 0], .tuple [.int (n - 1)], .tuple [.int n], .tuple [.int (-1)], .tuple [.bool true], .tuple [.str "0"], .tuple [.none], .list [.int 0], .tuple [.int 0, .int 0, .int 0], .tuple [], .tuple [.tuple [.int 0]], .tuple [.int 0, .bool true]]
abbrev edgeD2 (k : Int) : List PyData := [.tuple [.int k, .int 1], .tuple [.int (-1), .int 1], .tuple [.int 0, .str "1"], .tuple [.int 0, .none], .tuple [.int 0, .int (10 ^ 39)], .tuple [.str "0", .int 1]]
theorem edge1_small {n : Int} (h0 : 1 ≤ n) (h1 : n ≤ 16) : Small (edgeD1 n) := by
  intro d hd
  have z1 : (reprText "0").length ≤ 2000 := by decide +kernel
  simp only [edgeD1, List.mem_cons, List.not_mem_nil, or_false] at hd
  rcases hd with h | h | h | h | h | h | h | h | h | h | h | h <;> subst h <;> refine ⟨?_, ?_, ?_⟩ <;> simp only [leafy, leafys, cnt, cnts, PyData.depth, PyData.depthAll] <;> first | trivial | decide | exact ⟨z1, trivial⟩ | exact ⟨by omega, trivial⟩ | omega
theorem edge2_small {k : Int} (h0 : 0 ≤ k) (h1 : k ≤ 16) : Small (edgeD2 k) := by
  intro d hd
  have z0 : (reprText "0").length ≤ 2000 := by decide +kernel
  have z1 : (reprText "1").length ≤ 2000 := by decide +kernel
  simp only [edgeD2, List.mem_cons, List.not_mem_nil, or_false] at hd
  rcases hd with h | h | h | h | h | h <;> subst h <;> refine ⟨?_, ?_, ?_⟩ <;> simp only [leafy, leafys, cnt, cnts, PyData.depth, PyData.depthAll] <;> first | trivial | decide | exact ⟨by decide, z1, trivial⟩ | exact ⟨z0, by decide, trivial⟩ | exact ⟨by omega, by decide, trivial⟩ | omega
section
variable {P : Program} {w : World} {K : PySem.W.Frag} {mg : Str → Option Value} {base : Heap}
abbrev sEdges : Stmt := topS 23
abbrev nEdges : List Str := ["_law_house_here", "_law_found", "_law_pipe_here", "_law_length_here", "_law_at"]
theorem scEdges : FnScope nEdges ["_law_house_here"] (defScope sEdges) := ⟨rfl, rfl, rfl, by decide +kernel, rfl, by decide +kernel, by decide +kernel⟩
def spEdges : Sp := fun vs H Q _ => ∃ (h : V) (n : Int) (ps : List Pi) (av : List Addr), vs = [h] ∧ Dt av H h (houseD n (ps.map Pi.dat)) ∧ 1 ≤ n ∧ n ≤ 16 ∧ (ps.length : Int) = n - 1 ∧ (∀ p ∈ ps, p.ok n) ∧ Tr av H ∧
  ∀ H' (p : Addr) (us : List V) (ds : List PyData), Keep [] H H' → H p = none → H' p = some (.lst us) → Dts av H' us ds → Small ds → ds.length ≤ 300 → Tr av H' → Q (.ref p) H'
theorem ok_edges (h : Has K mg "_law_edges" sEdges) (B : Blt mg) : Can P w K mg base "_law_edges" ["_law_house_here"] 1 spEdges := by
  obtain ⟨f, fd, F, g⟩ := h
  refine ⟨f, fd, F.ok (k := 0) scEdges (fun vs H Q E h => ?_) (fun cdv A outer s H vs Q E hr h => ?_), g, F.kp, F.binds fun _ _ _ _ _ _ us hl => match us, hl with | [_], _ => rfl⟩
  · obtain ⟨h, n, ps, av, rfl, _⟩ := h
    rfl
  · obtain ⟨h, n, ps, av, rfl, dh, n0, hn, hl, okp, tr, q⟩ := h
    refine ⟨_, pss_cons (ps_set (i := 1) scEdges.nd rfl (.inl rfl) (pe_lst (pa_cons (pe_tup (pa_cons pe_int pa_nil)) (pa_cons (pe_tup (pa_cons (pe_op op_sub (pe_ix ix_tup (pv 0) pe_int (fun _ _ => rfl)) pe_int) pa_nil)) (pa_cons (pe_tup (pa_cons (pe_ix ix_tup (pv 0) pe_int (fun _ _ => rfl)) pa_nil))
        (pa_cons (pe_tup (pa_cons (pe_un un_neg pe_int) pa_nil)) (pa_cons (pe_tup (pa_cons pe_bl pa_nil)) (pa_cons (pe_tup (pa_cons pe_str pa_nil)) (pa_cons (pe_tup (pa_cons pe_non pa_nil)) (pa_cons (pe_lstN (pa_cons pe_int pa_nil)) (pa_cons (pe_tup (pa_cons pe_int (pa_cons pe_int (pa_cons pe_int pa_nil))))
        (pa_cons (pe_tup pa_nil) (pa_cons (pe_tup (pa_cons (pe_tup (pa_cons pe_int pa_nil)) pa_nil)) (pa_cons (pe_tup (pa_cons pe_int (pa_cons pe_bl pa_nil))) pa_nil))))))))))))))
      (pss_cons (ps_for PassesOwn.never rfl (pi_range1 (by rfl) B.range_ (pa_cons (pe_callB call_len_seq (by rfl) B.len_ PySem.boot_len (pa_cons (pe_ix ix_tup (pv 0) pe_int (fun _ _ => rfl)) pa_nil)) pa_nil)) (pg_name (i := 2) scEdges.nd rfl (Or.inr rfl))
        (pss_cons (ps_set (i := 3) scEdges.nd rfl (.inl rfl) (pe_ix ix_tup (pe_ix ix_tup (pe_ix ix_tup (pv 0) pe_int (fun _ _ => rfl)) (pv 2) (fun _ _ => rfl)) pe_int (fun _ _ => rfl)))
        (pss_one (ps_set (i := 1) scEdges.nd rfl (.inl rfl) (pe_op op_cat (pv 1)
          (pe_lc (own := [("_law_at", 4)]) (g := gName 4) (tt := tYes) rfl scEdges.nd (pi_list (pe_lst (pa_cons (pe_un un_neg pe_int) (pa_cons pe_int (pa_cons pe_int (pa_cons (pe_op op_fdiv (pv 3) pe_int) (pa_cons (pe_op op_sub (pv 3) pe_int) (pa_cons (pv 3) (pa_cons (pe_op op_add (pv 3) pe_int) pa_nil)))))))))
            (blkOk_by (N := nEdges) (sc := defScope sEdges) (by decide +kernel)) (fun _ _ _ _ _ => pg_name (i := 4) scEdges.nd rfl (Or.inl rfl)) (fun _ _ _ _ _ => pts_nil) (fun _ _ _ _ _ => pe_tup (pa_cons (pv 2) (pa_cons (pv 4) pa_nil)))))))))
      (pss_one (ps_ret (pe_op op_cat (pv 1) (pe_lst (pa_cons (pe_tup (pa_cons (pe_callB call_len_seq (by rfl) B.len_ PySem.boot_len (pa_cons (pe_ix ix_tup (pv 0) pe_int (fun _ _ => rfl)) pa_nil)) (pa_cons pe_int pa_nil))) (pa_cons (pe_tup (pa_cons (pe_un un_neg pe_int) (pa_cons pe_int pa_nil)))
        (pa_cons (pe_tup (pa_cons pe_int (pa_cons pe_str pa_nil))) (pa_cons (pe_tup (pa_cons pe_int (pa_cons pe_non pa_nil))) (pa_cons (pe_tup (pa_cons pe_int (pa_cons (pe_op op_pow pe_int pe_int) pa_nil))) (pa_cons (pe_tup (pa_cons pe_str (pa_cons pe_int pa_nil))) pa_nil))))))))))), ?_⟩
    obtain ⟨ah, ap, xp, rfl, nah, eah, nap, eap, dxp⟩ := house_parts dh
    have s1 : (1 : Nat) ≤ sizeLine := by decide
    have s2 : (2 : Nat) ≤ sizeLine := by decide
    refine ⟨s1, fun a1 n1 => ?_⟩
    have t1 := tr.upd (p := a1) (o := .tup [.int 0])
    have A1 := Dts.cons (Dt.newT tr n1 (.cons (.int 0) .nil)) .nil
    have e1 := st (o := .tup [.int 0]) n1 eah
    have k1 : Keep [] H _ := Keep.new (o := .tup [.int 0]) n1
    refine ⟨.ref ah, rfl, ah, _, 0, .int n, rfl, rfl, SqT.of e1, atI_nat (j := 0) rfl, n, 1, rfl, rfl, s1, fun a2 n2 => ?_⟩
    have t2 := t1.upd (p := a2) (o := .tup [.int (n - 1)])
    have A2 := (A1.kn (o := .tup [.int (n - 1)]) n2).app (.cons (Dt.newT t1 n2 (.cons (.int (n - 1)) .nil)) .nil)
    have e2 := st (o := .tup [.int (n - 1)]) n2 e1
    have k2 := k1.trans (Keep.new (o := .tup [.int (n - 1)]) n2)
    refine ⟨.ref ah, rfl, ah, _, 0, .int n, rfl, rfl, SqT.of e2, atI_nat (j := 0) rfl, s1, fun a3 n3 => ?_⟩
    have t3 := t2.upd (p := a3) (o := .tup [.int n])
    have A3 := (A2.kn (o := .tup [.int n]) n3).app (.cons (Dt.newT t2 n3 (.cons (.int n) .nil)) .nil)
    have k3 := k2.trans (Keep.new (o := .tup [.int n]) n3)
    refine ⟨1, rfl, s1, fun a4 n4 => ⟨s1, fun a5 n5 => ⟨s1, fun a6 n6 => ⟨s1, fun a7 n7 => ⟨s1, fun a8 n8 q8 => ⟨show 3 ≤ sizeLine by decide, fun a9 n9 => ⟨show 0 ≤ sizeLine by decide, fun a10 n10 => ⟨s1, fun a11 n11 => ⟨s1, fun a12 n12 => ⟨s2, fun a13 n13 => ⟨show 12 ≤ sizeLine by decide, fun l nl => ?_⟩⟩⟩⟩⟩⟩⟩⟩⟩⟩⟩
    have t4 := t3.upd (p := a4) (o := .tup [.int (-1)])
    have A4 := (A3.kn (o := .tup [.int (-1)]) n4).app (.cons (Dt.newT t3 n4 (.cons (.int (-1)) .nil)) .nil)
    have k4 := k3.trans (Keep.new (o := .tup [.int (-1)]) n4)
    have t5 := t4.upd (p := a5) (o := .tup [.bl true])
    have A5 := (A4.kn (o := .tup [.bl true]) n5).app (.cons (Dt.newT t4 n5 (.cons (.bl true) .nil)) .nil)
    have k5 := k4.trans (Keep.new (o := .tup [.bl true]) n5)
    have t6 := t5.upd (p := a6) (o := .tup [.str "0"])
    have A6 := (A5.kn (o := .tup [.str "0"]) n6).app (.cons (Dt.newT t5 n6 (.cons (.str "0") .nil)) .nil)
    have k6 := k5.trans (Keep.new (o := .tup [.str "0"]) n6)
    have t7 := t6.upd (p := a7) (o := .tup [.non])
    have A7 := (A6.kn (o := .tup [.non]) n7).app (.cons (Dt.newT t6 n7 (.cons .non .nil)) .nil)
    have k7 := k6.trans (Keep.new (o := .tup [.non]) n7)
    have t8 := t7.upd (p := a8) (o := .lst [.int 0])
    have A8 := (A7.kn (o := .lst [.int 0]) n8).app (.cons (Dt.newL t7 n8 q8 (.cons (.int 0) .nil)) .nil)
    have k8 := k7.trans (Keep.new (o := .lst [.int 0]) n8)
    have t9 := t8.upd (p := a9) (o := .tup [.int 0, .int 0, .int 0])
    have A9 := (A8.kn (o := .tup [.int 0, .int 0, .int 0]) n9).app (.cons (Dt.newT t8 n9 (.cons (.int 0) (.cons (.int 0) (.cons (.int 0) .nil)))) .nil)
    have k9 := k8.trans (Keep.new (o := .tup [.int 0, .int 0, .int 0]) n9)
    have t10 := t9.upd (p := a10) (o := .tup [])
    have A10 := (A9.kn (o := .tup []) n10).app (.cons (Dt.newT t9 n10 .nil) .nil)
    have k10 := k9.trans (Keep.new (o := .tup []) n10)
    have t11 := t10.upd (p := a11) (o := .tup [.int 0])
    have k11 := k10.trans (Keep.new (o := .tup [.int 0]) n11)
    have t12 := t11.upd (p := a12) (o := .tup [.ref a11])
    have A12 := ((A10.kn (o := .tup [.int 0]) n11).kn (o := .tup [.ref a11]) n12).app (.cons (Dt.newT t11 n12 (.cons (Dt.newT t10 n11 (.cons (.int 0) .nil)) .nil)) .nil)
    have k12 := k11.trans (Keep.new (o := .tup [.ref a11]) n12)
    have t13 := t12.upd (p := a13) (o := .tup [.int 0, .bl true])
    have A13 := (A12.kn (o := .tup [.int 0, .bl true]) n13).app (.cons (Dt.newT t12 n13 (.cons (.int 0) (.cons (.bl true) .nil))) .nil)
    have k13 := k12.trans (Keep.new (o := .tup [.int 0, .bl true]) n13)
    have tl := t13.upd (p := l) (o := .lst [.ref a1, .ref a2, .ref a3, .ref a4, .ref a5, .ref a6, .ref a7, .ref a8, .ref a9, .ref a10, .ref a12, .ref a13])
    have Al : Dts av _ [.ref a1, .ref a2, .ref a3, .ref a4, .ref a5, .ref a6, .ref a7, .ref a8, .ref a9, .ref a10, .ref a12, .ref a13] (edgeD1 n) := A13.kn (o := .lst [.ref a1, .ref a2, .ref a3, .ref a4, .ref a5, .ref a6, .ref a7, .ref a8, .ref a9, .ref a10, .ref a12, .ref a13]) nl
    have kl := k13.trans (Keep.new (av := []) (o := .lst [.ref a1, .ref a2, .ref a3, .ref a4, .ref a5, .ref a6, .ref a7, .ref a8, .ref a9, .ref a10, .ref a12, .ref a13]) nl)
    have fr : ∀ {G : Hp} {z : Addr}, Keep [] H G → G z = none → H z = none := fun {G z} k nz => by
      cases hq : H z with
      | none => rfl
      | some o => rw [k.same z o hq] at nz; cases nz
    have fl := fr k13 nl
    have lx : xp.length = ps.length := by rw [dxp.len, List.length_map]
    have eahL := kl.same ah _ eah
    have eapL := kl.same ap _ eap
    clear A1 A2 A3 A4 A5 A6 A7 A8 A9 A10 A12 A13 t1 t2 t3 t4 t5 t6 t7 t8 t9 t10 t11 t12 t13 k1 k2 k3 k4 k5 k6 k7 k8 k9 k10 k11 k12 k13 e1 e2
    refine ⟨.ref ah, rfl, ah, _, 1, .ref ap, rfl, rfl, SqT.of eahL, atI_nat (j := 1) rfl, ap, xp, rfl, .inr (SqT.of eapL), _, rfl, by omega, by omega, for_range (lo := 0) (n := ((xp.length : Int)).toNat)
      (fun i σ G => ∃ (s2 s3 : Option V) (p : Addr) (us : List V) (ds : List PyData), σ = [some (.ref ah), some (.ref p), s2, s3, none] ∧ Keep [] H G ∧ Tr av G ∧ H p = none ∧ G p = some (.lst us) ∧ Dts av G us ds ∧ Small ds ∧ ds.length = 12 + 7 * i)
      ⟨none, none, l, _, edgeD1 n, rfl, kl, tl, fl, upd_same, Al, edge1_small n0 hn, rfl⟩ (fun i σ G hi p => ?_) (fun σ G p => ?_)⟩
    · obtain ⟨s2', s3', p, us, ds, rfl, kG, tG, fp, ep, dd, sd, ld⟩ := p
      have eah' := kG.same ah _ eah
      have eap' := kG.same ap _ eap
      have dxp' := dxp.keep (Keep.of kG)
      obtain ⟨pp, pa, T1, T2, mp, hp, epa, eP⟩ := pi_at (i := 0 + (i : Int)) dxp' (by omega) (by omega)
      have okq := okp pp mp
      have l1 := okq.fit.l1
      have l2 := okq.fit.l2
      refine ⟨.ref ah, rfl, ah, _, 1, .ref ap, rfl, rfl, SqT.of eah', atI_nat (j := 1) rfl, .int (0 + (i : Int)), rfl, ap, _, _, .ref pa, rfl, rfl, SqT.of eap', epa, pa, _, 2, .int pp.l, rfl, rfl, SqT.of eP, atI_nat (j := 2) rfl, ?_⟩
      refine ⟨.ref p, rfl, 1, rfl, .int pp.l, rfl, pp.l, 2, rfl, rfl, ⟨by decide, by decide⟩, .int pp.l, rfl, pp.l, 1, rfl, rfl, .int pp.l, rfl, .int pp.l, rfl, pp.l, 1, rfl, rfl, show 7 ≤ sizeLine by decide, fun c nc => ?_⟩
      obtain ⟨ms, ems, hms⟩ : ∃ ms : List Int, [V.int (-1), .int 0, .int 1, .int (pp.l / 2), .int (pp.l - 1), .int pp.l, .int (pp.l + 1)] = ms.map V.int ∧ (∀ z ∈ ms, z.natAbs ≤ 10 ^ 39) ∧ ms.length = 7 := by
        refine ⟨[-1, 0, 1, pp.l / 2, pp.l - 1, pp.l, pp.l + 1], rfl, fun z hz => ?_, rfl⟩
        simp only [List.mem_cons, List.not_mem_nil, or_false] at hz
        rcases hz with h | h | h | h | h | h | h <;> subst h <;> omega
      show (_ : Prop)
      have hc : (upd G c (.lst [V.int (-1), .int 0, .int 1, .int (pp.l / 2), .int (pp.l - 1), .int pp.l, .int (pp.l + 1)])) c = some (.lst (ms.map V.int)) := by rw [← ems]; exact upd_same
      have kc : Keep [] G (upd G c (.lst [V.int (-1), .int 0, .int 1, .int (pp.l / 2), .int (pp.l - 1), .int pp.l, .int (pp.l + 1)])) := Keep.new nc
      have tc : Tr av (upd G c (.lst [V.int (-1), .int 0, .int 1, .int (pp.l / 2), .int (pp.l - 1), .int pp.l, .int (pp.l + 1)])) := tG.upd
      refine ⟨c, rfl, ⟨_, SqL.of hc⟩, fun W nW => ?_⟩
      refine lc_list (K := K) (a := c) (xs := ms.map V.int)
        (fun j J => Keep [] (upd G c (.lst [V.int (-1), .int 0, .int 1, .int (pp.l / 2), .int (pp.l - 1), .int pp.l, .int (pp.l + 1)])) J ∧ Tr (W :: av) J ∧ ∃ (vs : List V) (es : List PyData), J W = some (.lst vs) ∧ Dts (W :: av) J vs es ∧ Small es ∧ es.length = j)
        ⟨Keep.new nW, tc.upd.cons upd_same, [], [], upd_same, .nil, small_nil, rfl⟩ (fun j J _ p => p.1.same.seq (SqL.of hc)) (fun j x J hx p => ?_) (fun J p => ?_)
      · obtain ⟨kJ, tJ, vs, es, eW, dJ, sJ, lJ⟩ := p
        rw [List.getElem?_map] at hx
        obtain ⟨z, hz, rfl⟩ := Option.map_eq_some_iff.mp hx
        have hj : j < 7 := by have := (List.getElem?_eq_some_iff.mp hz).1; omega
        have bz := hms.1 z (List.mem_of_getElem? hz)
        refine ⟨rfl, .int (0 + (i : Int)), rfl, .int z, rfl, s2, fun t nt => ?_⟩
        have eW2 := st (o := .tup [.int (0 + (i : Int)), .int z]) nt eW
        refine ⟨vs, eW2, by rw [dJ.len, lJ]; exact small1000 (by omega), ?_, tJ.upd.upd, vs ++ [.ref t], es ++ [.tuple [.int (0 + (i : Int)), .int z]], upd_same, ?_, ?_, by rw [List.length_append, lJ]; rfl⟩
        · exact (kJ.trans (Keep.new nt)).upd nW
        · exact ((dJ.kn nt).app (.cons (Dt.newT tJ nt (.cons (.int _) (.cons (.int z) .nil))) .nil)).keep (Keep.put List.mem_cons_self)
        · refine sJ.app fun d hd => ?_
          rw [List.mem_singleton.mp hd]
          exact two_ints (by omega) bz
      · obtain ⟨kJ, tJ, vs, es, eW, dJ, sJ, lJ⟩ := p
        rw [List.length_map, hms.2] at lJ
        have kGJ : Keep [] G J := kc.trans kJ
        have ep2 := kGJ.same p _ ep
        have dd2 := dd.keep (Keep.of kGJ)
        have tav : Tr av J := fun a m => tJ a (List.mem_cons_of_mem _ m)
        refine ⟨p, W, us, vs, rfl, rfl, ep2, eW, by rw [dd.len, dJ.len, ld, lJ, sizeLine_eq]; omega, fun p3 np3 => ?_⟩
        refine ⟨_, _, p3, us ++ vs, ds ++ es, rfl, (kG.trans kGJ).trans (Keep.new np3), tav.upd, fr (kG.trans kGJ) np3, upd_same, ((dd2.app (dJ.less fun a m => List.mem_cons_of_mem _ m))).kn np3, sd.app sJ, by rw [List.length_append, ld, lJ]; omega⟩
    · obtain ⟨s2', s3', p, us, ds, rfl, kG, tG, fp, ep, dd, sd, ld⟩ := p
      have eah' := kG.same ah _ eah
      have eap' := kG.same ap _ eap
      refine ⟨.ref p, rfl, .ref ah, rfl, ah, _, 1, .ref ap, rfl, rfl, SqT.of eah', atI_nat (j := 1) rfl, ap, xp, rfl, .inr (SqT.of eap'), s2, fun b1 m1 => ⟨1, rfl, s2, fun b2 m2 => ⟨s2, fun b3 m3 => ⟨s2, fun b4 m4 => ⟨10, 39, rfl, rfl, ⟨by decide, by decide, by decide⟩, s2, fun b5 m5 => ⟨s2, fun b6 m6 => ⟨show 6 ≤ sizeLine by decide, fun l2 nl2 => ?_⟩⟩⟩⟩⟩⟩⟩
      have t1 := tG.upd (p := b1) (o := .tup [.int (xp.length : Int), .int 1])
      have A1 := Dts.cons (Dt.newT tG m1 (.cons (.int (xp.length : Int)) (.cons (.int 1) .nil))) .nil
      have k1 : Keep [] G _ := Keep.new (o := .tup [.int (xp.length : Int), .int 1]) m1
      have t2 := t1.upd (p := b2) (o := .tup [.int (-1), .int 1])
      have A2 := (A1.kn (o := .tup [.int (-1), .int 1]) m2).app (.cons (Dt.newT t1 m2 (.cons (.int (-1)) (.cons (.int 1) .nil))) .nil)
      have k2 := k1.trans (Keep.new (o := .tup [.int (-1), .int 1]) m2)
      have t3 := t2.upd (p := b3) (o := .tup [.int 0, .str "1"])
      have A3 := (A2.kn (o := .tup [.int 0, .str "1"]) m3).app (.cons (Dt.newT t2 m3 (.cons (.int 0) (.cons (.str "1") .nil))) .nil)
      have k3 := k2.trans (Keep.new (o := .tup [.int 0, .str "1"]) m3)
      have t4 := t3.upd (p := b4) (o := .tup [.int 0, .non])
      have A4 := (A3.kn (o := .tup [.int 0, .non]) m4).app (.cons (Dt.newT t3 m4 (.cons (.int 0) (.cons .non .nil))) .nil)
      have k4 := k3.trans (Keep.new (o := .tup [.int 0, .non]) m4)
      have t5 := t4.upd (p := b5) (o := .tup [.int 0, .int (10 ^ 39)])
      have A5 := (A4.kn (o := .tup [.int 0, .int (10 ^ 39)]) m5).app (.cons (Dt.newT t4 m5 (.cons (.int 0) (.cons (.int (10 ^ 39)) .nil))) .nil)
      have k5 := k4.trans (Keep.new (o := .tup [.int 0, .int (10 ^ 39)]) m5)
      have t6 := t5.upd (p := b6) (o := .tup [.str "0", .int 1])
      have A6 := (A5.kn (o := .tup [.str "0", .int 1]) m6).app (.cons (Dt.newT t5 m6 (.cons (.str "0") (.cons (.int 1) .nil))) .nil)
      have k6 := k5.trans (Keep.new (o := .tup [.str "0", .int 1]) m6)
      have A7 : Dts av _ [.ref b1, .ref b2, .ref b3, .ref b4, .ref b5, .ref b6] (edgeD2 (xp.length : Int)) := A6.kn (o := .lst [.ref b1, .ref b2, .ref b3, .ref b4, .ref b5, .ref b6]) nl2
      have k7 := k6.trans (Keep.new (av := []) (o := .lst [.ref b1, .ref b2, .ref b3, .ref b4, .ref b5, .ref b6]) nl2)
      have t7 := t6.upd (p := l2) (o := .lst [.ref b1, .ref b2, .ref b3, .ref b4, .ref b5, .ref b6])
      have ep7 := k7.same p _ ep
      have dd7 := dd.keep (Keep.of k7)
      refine ⟨p, l2, us, [.ref b1, .ref b2, .ref b3, .ref b4, .ref b5, .ref b6], rfl, rfl, ep7, upd_same, ?_, fun p3 np3 => ?_⟩
      · rw [dd.len, ld, sizeLine_eq]
        show 12 + 7 * _ + 6 ≤ _
        omega
      · refine q _ p3 _ (ds ++ edgeD2 (xp.length : Int)) ((kG.trans k7).trans (Keep.new np3)) (fr (kG.trans k7) np3) upd_same ((dd7.app A7).kn np3) (sd.app (edge2_small (by omega) (by omega))) ?_ t7.upd
        rw [List.length_append, ld]
        show 12 + 7 * _ + 6 ≤ _
        omega
end
end Rw

namespace Rw
open PySem PySem.Spec PyProof.Rows L2
def Thg (ds : List PyData) : Prop := ∀ d ∈ ds, Sm (10 ^ 39 + 16) 8 600 d
theorem Small.thg {ds : List PyData} (h : Small ds) : Thg ds := fun d m => (h d m).mono (by omega) (by omega) (by omega)
theorem Thg.app {xs ys : List PyData} (h : Thg xs) (k : Thg ys) : Thg (xs ++ ys) := fun d m => (List.mem_append.mp m).elim (h d) (k d)
theorem Thg.cons {x : PyData} {xs : List PyData} (h : Sm (10 ^ 39 + 16) 8 600 x) (k : Thg xs) : Thg (x :: xs) := fun d m => by
  rcases List.mem_cons.mp m with m | m
  · rw [m]; exact h
  · exact k d m
theorem Thg.nil : Thg [] := fun _ m => absurd m List.not_mem_nil
theorem pl_small {d : PyData} (h : plD d) : Sm (10 ^ 39) 1 3 d ∧ d.canLay0 = true ∧ ∃ es, d = .tuple es ∧ es.length ≤ 2 := by
  rcases plD_cases h with ⟨u, rfl, hu⟩ | ⟨u, v, rfl, hu, hv⟩
  · refine ⟨⟨?_, ?_, ?_⟩, by simp only [PyData.canLay0, PyData.canLayAll0, Bool.and_true], _, rfl, by show 1 ≤ 2; decide⟩
    · simp only [leafy, leafys]; exact ⟨by omega, trivial⟩
    · simp only [PyData.depth, PyData.depthAll]; omega
    · simp only [cnt, cnts]; omega
  · refine ⟨⟨?_, ?_, ?_⟩, by simp only [PyData.canLay0, PyData.canLayAll0, Bool.and_true], _, rfl, by show 2 ≤ 2; decide⟩
    · simp only [leafy, leafys]; exact ⟨by omega, by omega, trivial⟩
    · simp only [PyData.depth, PyData.depthAll]; omega
    · simp only [cnt, cnts]; omega
theorem leaf_small {d : PyData} (h : leafy (10 ^ 39) d) (h2 : d.depth = 0) (h3 : cnt d = 1) : Sm (10 ^ 39 + 16) 8 600 d := ⟨leafy_mono (by omega) d h, by omega, by omega⟩
/-! the list of a house and a thing, shown -/
theorem pair_shown {M m n M' m' n' : Nat} {x y : PyData} (h : Sm M m n x) (k : Sm M' m' n' y) (b1 : M ≤ big) (b2 : M' ≤ big) (b3 : m ≤ 20) (b4 : m' ≤ 20) (b5 : n + n' ≤ 5000) :
    (PyData.list [x, y]).showable = true ∧ (PyData.list [x, y]).depth ≤ 64 ∧ (PyData.list [x, y]).shown.length ≤ sizeLine := by
  have l1 : leafy big (.list [x, y]) := by
    simp only [leafy, leafys]
    exact ⟨leafy_mono b1 x h.lf, leafy_mono b2 y k.lf, trivial⟩
  have d1 := h.dp
  have d2 := k.dp
  have c1 := h.ct
  have c2 := k.ct
  refine ⟨show_ok (Nat.le_refl _) _ l1, by simp only [PyData.depth, PyData.depthAll]; omega, ?_⟩
  have := show_le (Nat.le_refl _) _ l1
  simp only [cnt, cnts] at this
  rw [sizeLine_eq]
  omega
section
variable {P : Program} {w : World} {K : PySem.W.Frag} {mg : Str → Option Value} {base : Heap}
abbrev sLaw : Stmt := topS 24
abbrev nLaw : List Str := ["_law_script", "_law_deck_here", "_law_turn", "_law_house_here", "_law_some", "_law_k", "_law_place_here", "_law_thing", "_law_kept", "_law_found"]
theorem scLaw : FnScope nLaw ["_law_script"] (defScope sLaw) := ⟨rfl, rfl, rfl, by decide +kernel, rfl, by decide +kernel, by decide +kernel⟩
def spLaw (K : PySem.W.Frag) : Sp := fun vs H Q _ => ∃ (a : Addr) (ns : List Int), vs = [.ref a] ∧ SqL K H a (ns.map V.int) ∧ ns.length ≤ 63 ∧ ∀ H', Q (.bl true) H'
theorem ok_law {f : Addr} {fd : FuncData} (F : Fun K "law" "law" sLaw f fd) (B : Blt mg) (CD : Can P w K mg base "_law_deck" ["_law_script"] 1 (spDeck K)) (CN : Can P w K mg base "_law_next" ["_law_deck_here", "_law_many"] 1 spNext)
    (CH : Can P w K mg base "_law_house" ["_law_deck_here", "_law_most", "_law_far", "_law_flaps"] 6 spHouse) (CG : Can P w K mg base "_law_edges" ["_law_house_here"] 1 spEdges) (CL : Can P w K mg base "_law_place" ["_law_deck_here", "_law_house_here"] 4 spPlaceL)
    (CS : Can P w K mg base "_law_spoilt" ["_law_deck_here", "_law_thing"] 4 spSpoilt) (CO : Can P w K mg base "_law_odd" ["_law_deck_here"] 2 spOdd) (CP : Can P w K mg base "is_place" ["house", "thing"] 3 spPlaceP) (CI : Can P w K mg base "_law_is_one" ["_law_house_here", "_law_thing"] 2 spPlaceP) :
    (∀ (s : Shared) (u : Value), BindsTo s fd ⟨[u], []⟩ [("_law_script", u)]) ∧ AtTop P w K mg base f fd "_law_script" (spLaw K) := by
  refine ⟨?_, atTop_of (k := 6) F scLaw ⟨rfl, by decide, by decide⟩ fun cdv s H v Q hr h => ?_⟩
  · obtain ⟨oc, od, kV, doc, pm, an, cdv, ct, osl, rfl, lk, hcd⟩ := F.ex
    exact fun s u => .of_eq rfl
  · obtain ⟨a, ns, hv, hS, hlen, q⟩ := h
    cases hv
    have hu : (callerA.deeper (envOfC "law" (defScope sLaw) s.heap.objs.size f cdv)).units + 70 < cLine := by have := hr.un; omega
    refine ⟨_, PSs.nox (pss_cons (ps_set (i := 1) scLaw.nd rfl (.inl rfl) (pe_can CD (hr.mono (by decide)) (by rfl) (pa_cons (pv 0) pa_nil)))
      (pss_cons (ps_for PassesOwn.never rfl (pi_range1 (by rfl) B.range_ (pa_cons pe_int pa_nil)) (pg_name (i := 2) scLaw.nd rfl (Or.inl rfl))
      (pss_cons (ps_set (i := 3) scLaw.nd rfl (.inl rfl) (pe_can CH (hr.mono (by decide)) (by rfl) (pa_cons (pv 1) (pa_cons (pe_ix ix_list (pe_lst (pa_cons pe_int (pa_cons pe_int pa_nil))) (pe_can CN (hr.mono (by decide)) (by rfl) (pa_cons (pv 1) (pa_cons pe_int pa_nil))) (fun _ _ => rfl)) (pa_cons (pe_can CN (hr.mono (by decide)) (by rfl) (pa_cons (pv 1) (pa_cons pe_int pa_nil))) (pa_cons pe_int pa_nil))))))
      (pss_cons (ps_set (i := 4) scLaw.nd rfl (.inl rfl) (pe_op op_cat (pe_can CG (hr.mono (by decide)) (by rfl) (pa_cons (pv 3) pa_nil)) (pe_lst (pa_cons pe_non (pa_cons pe_bl (pa_cons pe_int (pa_cons pe_str (pa_cons pe_dnewK (pa_cons (pe_lstN pa_nil) (pa_cons (pv 3) (pa_cons (pe_op op_pow pe_int pe_int) pa_nil)))))))))))
      (pss_cons (ps_for PassesOwn.never rfl (pi_range1 (by rfl) B.range_ (pa_cons pe_int pa_nil)) (pg_name (i := 5) scLaw.nd rfl (Or.inl rfl))
      (pss_cons (ps_set (i := 6) scLaw.nd rfl (.inl rfl) (pe_can CL (hr.mono (by decide)) (by rfl) (pa_cons (pv 1) (pa_cons (pv 3) pa_nil))))
      (pss_cons (ps_set (i := 4) scLaw.nd rfl (.inl rfl) (pe_op op_cat (pv 4) (pe_lst (pa_cons (pv 6) (pa_cons (pe_can CS (hr.mono (by decide)) (by rfl) (pa_cons (pv 1) (pa_cons (pv 6) pa_nil))) (pa_cons (pe_callTy call_listN (by rfl) B.list_ boot_list (pa_cons (pv 6) pa_nil)) (pa_cons (pe_can CO (hr.mono (by decide)) (by rfl) (pa_cons (pv 1) pa_nil)) (pa_cons (pe_op op_catA (pv 6) (pe_tup (pa_cons pe_int pa_nil))) pa_nil))))))))
      (pss_one (ps_if (pt_not (pt_val (pe_can CP (hr.mono (by decide)) (by rfl) (pa_cons (pv 3) (pa_cons (pv 6) pa_nil))))) (pss_one (ps_ret pe_bl)) pss_nil)))))
      (pss_one (ps_for PassesOwn.never rfl (pi_list (pv 4)) (pg_name (i := 7) scLaw.nd rfl (Or.inl rfl))
      (pss_cons (ps_set (i := 8) scLaw.nd rfl (.inl rfl) (pe_callB (call_reprD rfl hu) (by rfl) B.repr_ boot_repr (pa_cons (pe_lstN (pa_cons (pv 3) (pa_cons (pv 7) pa_nil))) pa_nil)))
      (pss_cons (ps_set (i := 9) scLaw.nd rfl (.inl rfl) (pe_can CP (hr.mono (by decide)) (by rfl) (pa_cons (pv 3) (pa_cons (pv 7) pa_nil))))
      (pss_one (ps_if (PW.pt (pw_or (pt_not (pt_val (pe_callB (call_isD kit_bool) (by rfl) B.isi boot_isinstance (pa_cons (pv 9) (pa_cons (pe_bltn (v := .ty "bool") (by rfl) B.bool_ boot_bool rfl) pa_nil))))) (pw_or (pt_cmpR op_ne (pv 9) (pe_can CI (hr.mono (by decide)) (by rfl) (pa_cons (pv 3) (pa_cons (pv 7) pa_nil))) (nomark _)) (pw_or1 (pt_cmpR op_ne (pe_callB (call_reprD rfl hu) (by rfl) B.repr_ boot_repr (pa_cons (pe_lstN (pa_cons (pv 3) (pa_cons (pv 7) pa_nil))) pa_nil)) (pv 8) (nomark _)))))) (pss_one (ps_ret pe_bl)) pss_nil))))))))))
      (pss_one (ps_ret pe_bl)))), ?_⟩
    refine ⟨.ref a, rfl, a, ns, rfl, hS, hlen, fun H0 D C R k0 _ _ _ d0 => ?_⟩
    refine ⟨4, rfl, by decide, by decide, for_range (lo := 0) (n := 4)
      (fun i σ G => ∃ (s2 s3 s4 s5 s6 s7 s8 s9 : Option V), σ = [some (.ref a), some (.ref D), s2, s3, s4, s5, s6, s7, s8, s9] ∧ Deck G D C R (5000 * i))
      ⟨none, none, none, none, none, none, none, none, rfl, d0.mono (by simp)⟩ (fun i σ G hi p => ?_) (fun σ G p => ?_)⟩
    rotate_left
    · exact q G
    obtain ⟨s2, s3, s4, s5, s6, s7, s8, s9, rfl, dG⟩ := p
    have mD : D ∈ [D, R] := List.mem_cons_self
    have mR : R ∈ [D, R] := List.mem_cons_of_mem _ List.mem_cons_self
    -- the house
    refine ⟨.ref D, rfl, show 2 ≤ sizeLine by decide, fun l0 nl0 => ?_⟩
    have zl := dG.ne nl0
    refine ⟨.ref D, rfl, D, C, R, _, 2, rfl, by decide, by decide, dG.new nl0, by omega, fun G1 k1 kp1 d1 a1 a2 => ?_⟩
    obtain ⟨most, gm, m1, m2⟩ : ∃ m : Int, atI [V.int 4, V.int 16] k1 = some (.int m) ∧ 1 ≤ m ∧ m ≤ 16 := by
      by_cases h0 : k1 = 0
      · rw [h0]; exact ⟨4, atI_nat (j := 0) rfl, by decide, by decide⟩
      · rw [show k1 = 1 by omega]; exact ⟨16, atI_nat (j := 1) rfl, by decide, by decide⟩
    refine ⟨l0, _, k1, .int most, rfl, rfl, SqL.of (kp1 l0 _ upd_same (notDR zl.1 zl.2.2)), gm, .ref D, rfl, D, C, R, _, 2, rfl, by decide, by decide, d1, by omega, fun G2 far kp2 d2 a3 a4 => ?_⟩
    have tr2 : Tr [D, R] G2 := fun z hz => by
      rcases List.mem_cons.mp hz with hz | hz
      · rw [hz]; exact d2.at.1
      · rw [List.mem_singleton.mp hz]; exact d2.at.2.2
    refine ⟨D, C, R, _, most, far, 1, [D, R], rfl, m1, m2, by omega, by decide, by decide, d2, by omega, tr2, mD, mR, fun G3 hp n ps kp3 d3 n0 n1 lps okp dh tr3 => ?_⟩
    have smh := house_small n0 n1 lps okp
    -- the things at the edges
    refine ⟨.ref hp, rfl, .ref hp, n, ps, [D, R], rfl, dh, n0, n1, lps, okp, tr3, fun G4 ep us ds k4 fe ee dts sds lds tr4 => ?_⟩
    have d4 := d3.keep k4
    have dh4 := dh.keep (Keep.of k4)
    refine fun c1 nc1 => ?_
    refine ⟨show 0 ≤ sizeLine by decide, fun c2 nc2 qc2 => ⟨.ref hp, rfl, 10, 30, rfl, rfl, ⟨by decide, by decide, by decide⟩, show 8 ≤ sizeLine by decide, fun l8 nl8 => ?_⟩⟩
    have t5 := tr4.upd (p := c1) (o := .dK [])
    have t6 := t5.upd (p := c2) (o := .lst [])
    have t7 := t6.upd (p := l8) (o := .lst [.non, .bl true, .int 0, .str "", .ref c1, .ref c2, .ref hp, .int (10 ^ 30)])
    have k5 : Keep [] G4 (upd (upd (upd G4 c1 (.dK [])) c2 (.lst [])) l8 (.lst [.non, .bl true, .int 0, .str "", .ref c1, .ref c2, .ref hp, .int (10 ^ 30)])) := (Keep.new nc1).trans ((Keep.new nc2).trans (Keep.new nl8))
    have x5 : Dts [D, R] (upd (upd (upd G4 c1 (.dK [])) c2 (.lst [])) l8 (.lst [.non, .bl true, .int 0, .str "", .ref c1, .ref c2, .ref hp, .int (10 ^ 30)])) [.non, .bl true, .int 0, .str "", .ref c1, .ref c2, .ref hp, .int (10 ^ 30)]
        [.none, .bool true, .int 0, .str "", .dict [], .list [], houseD n (ps.map Pi.dat), .int (10 ^ 30)] :=
      .cons .non (.cons (.bl true) (.cons (.int 0) (.cons (.str "") (.cons (((Dt.newD tr4 nc1).kn nc2).kn nl8) (.cons ((Dt.newL t5 nc2 qc2 .nil).kn nl8) (.cons (dh4.keep (Keep.of k5)) (.cons (.int _) .nil)))))))
    have d5 := d4.keep k5
    have ee5 := k5.same ep _ ee
    have dts5 := dts.keep (Keep.of k5)
    have dh5 := dh4.keep (Keep.of k5)
    have z0 : (reprText "").length ≤ 2000 := by decide +kernel
    have thg8 : Thg [.none, .bool true, .int 0, .str "", .dict [], .list [], houseD n (ps.map Pi.dat), .int (10 ^ 30)] := by
      refine .cons (leaf_small (by simp only [leafy]) rfl rfl) (.cons (leaf_small (by simp only [leafy]) rfl rfl) (.cons (leaf_small (by simp only [leafy]; decide) rfl rfl) (.cons (leaf_small (by simp only [leafy]; exact z0) rfl rfl) (.cons ?_ (.cons ?_ (.cons (smh.mono (by decide) (by decide) (by decide)) (.cons (leaf_small (by simp only [leafy]; decide) rfl rfl) .nil)))))))
      · refine ⟨?_, ?_, ?_⟩
        · simp only [leafy]
        · simp only [PyData.depth, PyData.depthKv]; omega
        · simp only [cnt]; omega
      · refine ⟨?_, ?_, ?_⟩
        · simp only [leafy, leafys]
        · simp only [PyData.depth, PyData.depthAll]; omega
        · simp only [cnt, cnts]; omega
    refine ⟨ep, l8, us, [.non, .bl true, .int 0, .str "", .ref c1, .ref c2, .ref hp, .int (10 ^ 30)], rfl, rfl, ee5, upd_same, by rw [dts.len, sizeLine_eq]; show ds.length + 8 ≤ _; omega, fun sa nsa => ?_⟩
    have d6 := d5.new (o := .lst (us ++ [.non, .bl true, .int 0, .str "", .ref c1, .ref c2, .ref hp, .int (10 ^ 30)])) nsa
    have zsa := d5.ne nsa
    have t8 := t7.upd (p := sa) (o := .lst (us ++ [.non, .bl true, .int 0, .str "", .ref c1, .ref c2, .ref hp, .int (10 ^ 30)]))
    have dts6 := (dts5.app x5).kn (o := .lst (us ++ [.non, .bl true, .int 0, .str "", .ref c1, .ref c2, .ref hp, .int (10 ^ 30)])) nsa
    have dh6 := dh5.kn (o := .lst (us ++ [.non, .bl true, .int 0, .str "", .ref c1, .ref c2, .ref hp, .int (10 ^ 30)])) nsa
    have thg6 := sds.thg.app thg8
    have lds6 : (ds ++ [PyData.none, .bool true, .int 0, .str "", .dict [], .list [], houseD n (ps.map Pi.dat), .int (10 ^ 30)]).length ≤ 308 := by
      rw [List.length_append]; show ds.length + 8 ≤ 308; omega
    have esa : (upd (upd (upd (upd G4 c1 (.dK [])) c2 (.lst [])) l8 (.lst [.non, .bl true, .int 0, .str "", .ref c1, .ref c2, .ref hp, .int (10 ^ 30)])) sa (.lst (us ++ [.non, .bl true, .int 0, .str "", .ref c1, .ref c2, .ref hp, .int (10 ^ 30)]))) sa = some (.lst (us ++ [.non, .bl true, .int 0, .str "", .ref c1, .ref c2, .ref hp, .int (10 ^ 30)])) := upd_same
    show (_ : Prop)
    generalize us ++ [V.non, .bl true, .int 0, .str "", .ref c1, .ref c2, .ref hp, .int (10 ^ 30)] = us6 at *
    generalize ds ++ [PyData.none, .bool true, .int 0, .str "", .dict [], .list [], houseD n (ps.map Pi.dat), .int (10 ^ 30)] = ds6 at *
    -- eight places
    refine ⟨8, rfl, by decide, by decide, for_range (lo := 0) (n := 8)
      (fun j σ J => ∃ (s2 s5 s6 s7 s8 s9 : Option V) (sa : Addr) (us : List V) (ds : List PyData), σ = [some (.ref a), some (.ref D), s2, some (.ref hp), some (.ref sa), s5, s6, s7, s8, s9] ∧ Deck J D C R (5000 * i + 2002 + 111 * j) ∧ Tr [D, R] J ∧ sa ≠ D ∧ sa ≠ R ∧ J sa = some (.lst us) ∧ Dt [D, R] J (.ref hp) (houseD n (ps.map Pi.dat)) ∧ Dts [D, R] J us ds ∧ Thg ds ∧ ds.length ≤ 308 + 5 * j)
      ⟨_, _, _, _, _, _, sa, us6, ds6, rfl, d6.mono (by omega), t8, zsa.1, zsa.2.2, esa, dh6, dts6, thg6, by omega⟩ (fun j σ J hj p => ?_) (fun σ J p => ?_)⟩
    · obtain ⟨s2, s5, s6, s7, s8, s9, sa, us, ds, rfl, dJ, tJ, nD, nR, esa, dhJ, dts, thg, lds⟩ := p
      refine ⟨.ref D, rfl, .ref hp, rfl, .ref hp, D, C, R, n, _, ps, [D, R], rfl, dhJ, n0, n1, lps, okp, dJ, by omega, tJ, mD, mR, fun J1 pa d kp1 dk1 fa dpa isp pl tJ1 => ?_⟩
      obtain ⟨sp1, sp2, es, rfl, les⟩ := pl_small pl
      have esa1 := kp1 sa _ esa (notDR nD nR)
      have dh1 := dhJ.keep kp1
      have dts1 := dts.keep kp1
      refine ⟨.ref sa, rfl, .ref pa, rfl, .ref D, rfl, .ref pa, rfl, D, C, R, _, [D, R], .ref pa, .tuple es, 10 ^ 39, 1, 3, rfl, dpa, sp1, sp2, by decide, by decide, Nat.le_refl _, by decide, dk1, by omega, tJ1, mD, mR, fun J2 x dx kp2 dk2 ddx sdx tJ2 => ?_⟩
      have dpa2 := dpa.keep kp2
      have esa2 := kp2 sa _ esa1 (notDR nD nR)
      have dh2 := dh1.keep kp2
      have dts2 := dts1.keep kp2
      cases dpa2 with
      | tup npa epa2 dpe =>
        rename_i xpa
        refine ⟨.ref pa, rfl, pa, xpa, rfl, SqT.of epa2, fun l1 nl1 ql1 => ?_⟩
        have xl := Dt.newL tJ2 nl1 ql1 dpe
        have xp : Dt [D, R] (upd J2 l1 (.lst xpa)) (.ref pa) (.tuple es) := (Dt.tup npa epa2 dpe).kn nl1
        have ddx3 := ddx.kn (o := .lst xpa) nl1
        have esa3 := st (o := .lst xpa) nl1 esa2
        have dh3 := dh2.kn (o := .lst xpa) nl1
        have dts3 := dts2.kn (o := .lst xpa) nl1
        have dk3 := dk2.new (o := .lst xpa) nl1
        have tJ3 := tJ2.upd (p := l1) (o := .lst xpa)
        generalize upd J2 l1 (.lst xpa) = J3 at *
        refine ⟨.ref D, rfl, D, C, R, _, [D, R], rfl, dk3, by omega, tJ3, mD, mR, fun J4 y dy kp4 dk4 ddy sdy tJ4 => ?_⟩
        have xl4 := xl.keep kp4
        have xp4 := xp.keep kp4
        have ddx4 := ddx3.keep kp4
        have esa4 := kp4 sa _ esa3 (notDR nD nR)
        have dh4 := dh3.keep kp4
        have dts4 := dts3.keep kp4
        refine ⟨.ref pa, rfl, show 1 ≤ sizeLine by decide, fun l2 nl2 => ?_⟩
        have x0 := Dt.newT tJ4 nl2 (.cons (.int 0) .nil)
        refine cat_any (xp4.kn nl2) x0 (by rw [sizeLine_eq, List.length_singleton]; omega) tJ4.upd fun J5 v5 k5 tJ5 x5 => ?_
        have k45 : Keep [] J4 J5 := (Keep.new nl2).trans k5
        have xl5 := xl4.keep (Keep.of k45)
        have xp5 := xp4.keep (Keep.of k45)
        have ddx5 := ddx4.keep (Keep.of k45)
        have ddy5 := ddy.keep (Keep.of k45)
        have esa5 := k45.same sa _ esa4
        have dh5 := dh4.keep (Keep.of k45)
        have dts5 := dts4.keep (Keep.of k45)
        have dk5 := dk4.keep k45
        refine ⟨show 5 ≤ sizeLine by decide, fun l3 nl3 => ?_⟩
        refine ⟨sa, l3, us, [.ref pa, x, .ref l1, y, v5], rfl, rfl, st nl3 esa5, upd_same, by rw [dts.len, sizeLine_eq]; show ds.length + 5 ≤ _; omega, fun sb nsb => ?_⟩
        have dk6 := dk5.new (o := .lst [.ref pa, x, .ref l1, y, v5]) nl3
        have zsb := dk6.ne nsb
        have newd : Dts [D, R] J5 [.ref pa, x, .ref l1, y, v5] [.tuple es, dx, .list es, dy, .tuple (es ++ [.int 0])] := .cons xp5 (.cons ddx5 (.cons xl5 (.cons ddy5 (.cons x5 .nil))))
        have dts7 := (((dts5.app newd).kn (o := .lst [.ref pa, x, .ref l1, y, v5]) nl3).kn (o := .lst (us ++ [.ref pa, x, .ref l1, y, v5])) nsb)
        have dh7 := (dh5.kn (o := .lst [.ref pa, x, .ref l1, y, v5]) nl3).kn (o := .lst (us ++ [.ref pa, x, .ref l1, y, v5])) nsb
        have xp7 := (xp5.kn (o := .lst [.ref pa, x, .ref l1, y, v5]) nl3).kn (o := .lst (us ++ [.ref pa, x, .ref l1, y, v5])) nsb
        have dk7 := dk6.new (o := .lst (us ++ [.ref pa, x, .ref l1, y, v5])) nsb
        have tJ7 := (tJ5.upd (p := l3) (o := .lst [.ref pa, x, .ref l1, y, v5])).upd (p := sb) (o := .lst (us ++ [.ref pa, x, .ref l1, y, v5]))
        have lfe := sp1.lf
        have dpe' := sp1.dp
        have cte := sp1.ct
        simp only [leafy] at lfe
        simp only [PyData.depth] at dpe'
        simp only [cnt] at cte
        have thgN : Thg [.tuple es, dx, .list es, dy, .tuple (es ++ [.int 0])] := by
          refine .cons (sp1.mono (by omega) (by omega) (by omega)) (.cons (sdx.mono (by omega) (by omega) (by omega)) (.cons ?_ (.cons (sdy.mono (by omega) (by omega) (by omega)) (.cons ?_ .nil))))
          · refine ⟨?_, ?_, ?_⟩
            · simp only [leafy]; exact leafys_mono (by omega) es lfe
            · simp only [PyData.depth]; omega
            · simp only [cnt]; omega
          · refine ⟨?_, ?_, ?_⟩
            · simp only [leafy]
              rw [leafys_app]
              exact ⟨leafys_mono (by omega) es lfe, by simp only [leafys, leafy]; exact ⟨by decide, trivial⟩⟩
            · simp only [PyData.depth]
              rw [depth_app]
              simp only [PyData.depthAll, PyData.depth]; omega
            · simp only [cnt]
              rw [cnts_app]
              simp only [cnts, cnt]; omega
        refine ⟨.ref hp, rfl, .ref pa, rfl, .ref hp, .ref pa, n, ps.map Pi.dat, .tuple es, [D, R], [D, R], rfl, dh7, house_pipes, xp7, _, rfl, ?_⟩
        rw [isp]
        refine iteF ?_
        refine ⟨_, _, _, _, _, _, sb, us ++ [.ref pa, x, .ref l1, y, v5], ds ++ [.tuple es, dx, .list es, dy, .tuple (es ++ [.int 0])], rfl, dk7.mono (by omega), tJ7, zsb.1, zsb.2.2, upd_same, dh7, dts7, thg.app thgN, ?_⟩
        rw [List.length_append]
        show ds.length + 5 ≤ _
        omega
    · obtain ⟨s2, s5, s6, s7, s8, s9, sa, us, ds, rfl, dJ, tJ, nD, nR, esa, dhJ, dts, thg, lds⟩ := p
      refine ⟨.ref sa, rfl, sa, rfl, ⟨_, SqL.of esa⟩, for_list (K := K) (a := sa) (xs := us)
        (fun k σ L => ∃ (s7 s8 s9 : Option V), σ = [some (.ref a), some (.ref D), s2, some (.ref hp), some (.ref sa), s5, s6, s7, s8, s9] ∧ Keep [] J L)
        ⟨_, _, _, rfl, Keep.refl _ _⟩ (fun k σ L _ p => ?_) (fun k x σ L hx p => ?_) (fun σ L p => ?_)⟩
      · obtain ⟨_, _, _, _, kL⟩ := p
        exact kL.same.seq (SqL.of esa)
      · obtain ⟨s7, s8, s9, rfl, kL⟩ := p
        obtain ⟨d, hd, dx⟩ := (dts.keep (Keep.of kL)).getv k hx
        have sd := thg d (List.mem_of_getElem? hd)
        have dhL := dhJ.keep (Keep.of kL)
        have tL : Tr [D, R] L := fun z hz => by
          obtain ⟨o, e⟩ := tJ z hz
          exact ⟨o, kL.same z o e⟩
        obtain ⟨w1, w2, w3⟩ := pair_shown smh sd (by decide) (by decide) (by decide) (by decide) (by decide)
        refine ⟨.ref hp, rfl, x, rfl, show 2 ≤ sizeLine by decide, fun l nl ql => ?_⟩
        refine ⟨l, .list [houseD n (ps.map Pi.dat), d], [D, R], rfl, Dt.newL tL nl ql (.cons dhL (.cons dx .nil)), w1, w2, w3, ?_⟩
        have dhM := dhL.kn (o := .lst [.ref hp, x]) nl
        have dxM := dx.kn (o := .lst [.ref hp, x]) nl
        have tM := tL.upd (p := l) (o := .lst [.ref hp, x])
        have kM := kL.trans (Keep.new (av := []) (o := .lst [.ref hp, x]) nl)
        generalize upd L l (.lst [.ref hp, x]) = M at *
        refine ⟨.ref hp, rfl, x, rfl, .ref hp, x, n, ps.map Pi.dat, d, [D, R], [D, R], rfl, dhM, house_pipes, dxM, ?_⟩
        refine ⟨_, rfl, _, .bool _, [], rfl, .bl _, _, rfl, ?_⟩
        refine iteF ?_
        refine ⟨_, rfl, .ref hp, rfl, x, rfl, .ref hp, x, n, ps.map Pi.dat, d, [D, R], [D, R], rfl, dhM, house_pipes, dxM, rfl, _, rfl, ?_⟩
        refine iteNS rfl ?_
        refine ⟨.ref hp, rfl, x, rfl, show 2 ≤ sizeLine by decide, fun l2 nl2 ql2 => ?_⟩
        refine ⟨l2, .list [houseD n (ps.map Pi.dat), d], [D, R], rfl, Dt.newL tM nl2 ql2 (.cons dhM (.cons dxM .nil)), w1, w2, w3, _, rfl, rfl, _, rfl, ?_⟩
        refine iteNS rfl ?_
        exact ⟨_, _, _, rfl, kM.trans (Keep.new nl2)⟩
      · obtain ⟨s7, s8, s9, rfl, kL⟩ := p
        exact ⟨_, _, _, _, _, _, _, _, rfl, (dJ.keep kL).mono (by omega)⟩
end
end Rw

namespace Rw
open PySem PySem.Spec PyProof.Rows L2
theorem has_mk {K : PySem.W.Frag} {h : Heap} {mg : Str → Option Value} {x : Str} {st : Stmt} {f : Addr} (X : K.In h) (G : h.Ns mainGlobals mg) {od an : Option Addr} {sl : Array (Option Value)} {oc kV dc pm cd ct : Value}
    (a : PySem.W.nsIn K mainGlobals x = some (some (.ref f))) (l : K.lookup f = some ⟨oc, od, .func (PySem.W.fnOf x x (defArgs st) (defBody st) (defScope st) .none kV dc pm an cd ct), sl⟩) (c : PySem.W.codeIn K cd x = true) (k : PySem.W.keepIn K (.ref f) = true) : Has K mg x st :=
  ⟨f, _, fun_mk (st := st) l c k, PySem.W.mg_of X G a⟩
theorem end_all {P : Program} {w : World} {K : PySem.W.Frag} {mg : Str → Option Value} {fa : Addr} (B : Blt mg) (hfa : mg "law" = some (.ref fa)) (hL : Has K mg "law" sLaw)
    (h1 : Has K mg "is_whole" sWhole)
    (h2 : Has K mg "is_within" sWithin)
    (h4 : Has K mg "is_tuple_of" sTupOf)
    (h6 : Has K mg "is_place" sPlaceP)
    (h8 : Has K mg "_law_deck" sDeck)
    (h9 : Has K mg "_law_next" sNext)
    (h10 : Has K mg "_law_one" sOne)
    (h11 : Has K mg "_law_edge" sEdge)
    (h12 : Has K mg "_law_spots" sSpots)
    (h13 : Has K mg "_law_length" sLength)
    (h14 : Has K mg "_law_pipe" sPipe)
    (h15 : Has K mg "_law_house" sHouse)
    (h16 : Has K mg "_law_named" sNamed)
    (h17 : Has K mg "_law_place" sPlaceL)
    (h18 : Has K mg "_law_odd" sOdd)
    (h19 : Has K mg "_law_otherwise" sOther)
    (h20 : Has K mg "_law_spoilt" sSpoilt)
    (h21 : Has K mg "_law_is_from" sFrom)
    (h22 : Has K mg "_law_is_one" sIsOne)
    (h23 : Has K mg "_law_edges" sEdges) :
    ∃ fd : FuncData, (∀ (s : Shared) (u : Value), BindsTo s fd ⟨[u], []⟩ [("_law_script", u)]) ∧ ∀ base : Heap, K.In base → base.Ns mainGlobals mg → AtTop P w K mg base fa fd "_law_script" (spLaw K) := by
  obtain ⟨f, fd, F, g⟩ := hL
  have e := hfa.symm.trans g
  cases e
  have all : ∀ base : Heap, (∀ (s : Shared) (u : Value), BindsTo s fd ⟨[u], []⟩ [("_law_script", u)]) ∧ AtTop P w K mg base fa fd "_law_script" (spLaw K) := fun base => by
    have cW : Can P w K mg base _ _ _ _ := ok_whole h1 B
    have cI := ok_within h2 cW
    have cT : Can P w K mg base _ _ _ _ := ok_tupOf h4 B
    have cP := ok_placeP h6 B cT cI
    have cD : Can P w K mg base _ _ _ _ := ok_deck h8 B
    have cN : Can P w K mg base _ _ _ _ := ok_next h9 B
    have cO := ok_one h10 B cN
    have cE := ok_edge h11 B cN cO
    have cS := ok_spots h12 B cE
    have cL := ok_length h13 cN cO
    have cPi := ok_pipe h14 B cN cE cS cL
    have cH := ok_house h15 B cN cPi
    have cM : Can P w K mg base _ _ _ _ := ok_named h16 B
    have cPl := ok_placeL h17 B cN cE cM
    have cOd := ok_odd h18 cN
    have cOt := ok_other h19 B cN cOd
    have cSp := ok_spoilt h20 B cN cOt
    have cF : Can P w K mg base _ _ _ _ := ok_from h21 B
    have cIs := ok_isOne h22 B cF
    have cEd : Can P w K mg base _ _ _ _ := ok_edges h23 B
    exact ok_law F B cD cN cH cEd cPl cSp cOd cP cIs
  exact ⟨fd, (all Inhabited.default).1, fun base _ _ => (all base).2⟩
end Rw
open PySem PySem.W PyProof.Rows
set_option maxHeartbeats 0 in
theorem PySem.Challenge.cw_ropewarren_k02_places_taken_or_not_holds : PySem.Challenge.rw_ropewarren_k02_places_taken_or_not.Holds := by
  w_on; o_law; k_head; (case hw => w_witness2)
  k_fill
  refine Rw.walk_top (l := PySem.Challenge.rw_ropewarren_k02_places_taken_or_not) (n := 63) (x := "_law_script") (sp := fun w => Rw.spLaw _) rfl (by decide) rfl (fun w h Y => PySem.W.kIn_of Y) ?F (fun _ _ a ns hl _ hS => ⟨a, ns, rfl, hS, hl, fun _ => rfl⟩)
  case F =>
    intro w mg fa h KX G hmg0
    have hmg : mg "law" = some (.ref fa) := hmg0
    clear hmg0
    refine' Rw.end_all (mg := mg) ?B hmg ?hL ?h1 ?h2 ?h4 ?h6 ?h8 ?h9 ?h10 ?h11 ?h12 ?h13 ?h14 ?h15 ?h16 ?h17 ?h18 ?h19 ?h20 ?h21 ?h22 ?h23
    case B =>
      refine' ⟨PySem.W.mg_none_of KX G ?b1, PySem.W.mg_none_of KX G ?b2, PySem.W.mg_none_of KX G ?b3, PySem.W.mg_none_of KX G ?b4, PySem.W.mg_none_of KX G ?b5, PySem.W.mg_none_of KX G ?b6, PySem.W.mg_none_of KX G ?b7, PySem.W.mg_none_of KX G ?b8, PySem.W.mg_none_of KX G ?b9, PySem.W.mg_none_of KX G ?b10, PySem.W.mg_none_of KX G ?b11, PySem.W.mg_none_of KX G ?b12, PySem.W.mg_none_of KX G ?b13, PySem.W.mg_none_of KX G ?b14⟩
      (case b1 => k_is)
      (case b2 => k_is)
      (case b3 => k_is)
      (case b4 => k_is)
      (case b5 => k_is)
      (case b6 => k_is)
      (case b7 => k_is)
      (case b8 => k_is)
      (case b9 => k_is)
      (case b10 => k_is)
      (case b11 => k_is)
      (case b12 => k_is)
      (case b13 => k_is)
      (case b14 => k_is)
    case hL =>
      refine' Rw.has_mk KX G ?a ?l ?c ?k
      (case a => k_is); (case l => k_is); (case c => k_is); (case k => k_is)
    case h1 =>
      refine' Rw.has_mk KX G ?a ?l ?c ?k
      (case a => k_is); (case l => k_is); (case c => k_is); (case k => k_is)
    case h2 =>
      refine' Rw.has_mk KX G ?a ?l ?c ?k
      (case a => k_is); (case l => k_is); (case c => k_is); (case k => k_is)
    case h4 =>
      refine' Rw.has_mk KX G ?a ?l ?c ?k
      (case a => k_is); (case l => k_is); (case c => k_is); (case k => k_is)
    case h6 =>
      refine' Rw.has_mk KX G ?a ?l ?c ?k
      (case a => k_is); (case l => k_is); (case c => k_is); (case k => k_is)
    case h8 =>
      refine' Rw.has_mk KX G ?a ?l ?c ?k
      (case a => k_is); (case l => k_is); (case c => k_is); (case k => k_is)
    case h9 =>
      refine' Rw.has_mk KX G ?a ?l ?c ?k
      (case a => k_is); (case l => k_is); (case c => k_is); (case k => k_is)
    case h10 =>
      refine' Rw.has_mk KX G ?a ?l ?c ?k
      (case a => k_is); (case l => k_is); (case c => k_is); (case k => k_is)
    case h11 =>
      refine' Rw.has_mk KX G ?a ?l ?c ?k
      (case a => k_is); (case l => k_is); (case c => k_is); (case k => k_is)
    case h12 =>
      refine' Rw.has_mk KX G ?a ?l ?c ?k
      (case a => k_is); (case l => k_is); (case c => k_is); (case k => k_is)
    case h13 =>
      refine' Rw.has_mk KX G ?a ?l ?c ?k
      (case a => k_is); (case l => k_is); (case c => k_is); (case k => k_is)
    case h14 =>
      refine' Rw.has_mk KX G ?a ?l ?c ?k
      (case a => k_is); (case l => k_is); (case c => k_is); (case k => k_is)
    case h15 =>
      refine' Rw.has_mk KX G ?a ?l ?c ?k
      (case a => k_is); (case l => k_is); (case c => k_is); (case k => k_is)
    case h16 =>
      refine' Rw.has_mk KX G ?a ?l ?c ?k
      (case a => k_is); (case l => k_is); (case c => k_is); (case k => k_is)
    case h17 =>
      refine' Rw.has_mk KX G ?a ?l ?c ?k
      (case a => k_is); (case l => k_is); (case c => k_is); (case k => k_is)
    case h18 =>
      refine' Rw.has_mk KX G ?a ?l ?c ?k
      (case a => k_is); (case l => k_is); (case c => k_is); (case k => k_is)
    case h19 =>
      refine' Rw.has_mk KX G ?a ?l ?c ?k
      (case a => k_is); (case l => k_is); (case c => k_is); (case k => k_is)
    case h20 =>
      refine' Rw.has_mk KX G ?a ?l ?c ?k
      (case a => k_is); (case l => k_is); (case c => k_is); (case k => k_is)
    case h21 =>
      refine' Rw.has_mk KX G ?a ?l ?c ?k
      (case a => k_is); (case l => k_is); (case c => k_is); (case k => k_is)
    case h22 =>
      refine' Rw.has_mk KX G ?a ?l ?c ?k
      (case a => k_is); (case l => k_is); (case c => k_is); (case k => k_is)
    case h23 =>
      refine' Rw.has_mk KX G ?a ?l ?c ?k
      (case a => k_is); (case l => k_is); (case c => k_is); (case k => k_is)
