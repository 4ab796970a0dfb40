import PyProof.Rows.All
import Wide.All
import OpenK.AllK
import Wide.FinOn
import PyProof.ReprRoads
import HandS.ForMost
import HandS.Flow
import HandS.Wide
import HandS.IsInst
import HandS.Strs
import HandS.SetFor
import HandS.TupAny
import HandS.Rev
import HandS.NoneIn
import HandS.Style
import HandS.SortInts
import HandS.More
import HandS.Conv
import PySem.Challenge.RW_ropewarren_k01_houses_taken_or_not
set_option Elab.async false
set_option linter.all false
set_option maxRecDepth 100000
set_option maxHeartbeats 4000000
namespace Rw
open PySem PySem.Spec PyProof.Rows L2
/-! heaps of which all but a few addresses stay -/
def Keep (av : List Addr) (H H' : Hp) : Prop := ∀ b o, H b = some o → b ∉ av → H' b = some o
theorem Keep.refl (av : List Addr) (H : Hp) : Keep av H H := fun _ _ e _ => e
theorem Keep.trans {av : List Addr} {H H1 H2 : Hp} (x : Keep av H H1) (y : Keep av H1 H2) : Keep av H H2 := fun b o e n => y b o (x b o e n) n
theorem Keep.new {av : List Addr} {H : Hp} {p : Addr} {o : HO} (n : H p = none) : Keep av H (upd H p o) := fun b z e _ => by
  rw [upd_ne (ne_of_none e n)]; exact e
theorem Keep.put {av : List Addr} {H : Hp} {p : Addr} {o : HO} (n : p ∈ av) : Keep av H (upd H p o) := fun b z e nb => by
  rw [upd_ne (show b ≠ p from fun q => nb (by rw [q]; exact n))]; exact e
theorem Keep.mono {av av' : List Addr} {H H' : Hp} (x : Keep av H H') (s : ∀ a ∈ av, a ∈ av') : Keep av' H H' := fun b o e n => x b o e fun q => n (s b q)
/-! a fresh address may be left out of what is left out -/
theorem Keep.drop {av : List Addr} {H H' : Hp} {p : Addr} (n : H p = none) (x : Keep (p :: av) H H') : Keep av H H' := fun b o e nb => x b o e fun q => by
  rcases List.mem_cons.mp q with q | q
  · exact ne_of_none e n q
  · exact nb q
/-! data: what stands at a value, without the addresses av -/
mutual
inductive Dt (av : List Addr) (H : Hp) : V → PyData → Prop
  | non : Dt av H .non .none
  | bl (b : Bool) : Dt av H (.bl b) (.bool b)
  | int (i : Int) : Dt av H (.int i) (.int i)
  | str (x : Str) : Dt av H (.str x) (.str x)
  | lst {a : Addr} {xs : List V} {ds : List PyData} : a ∉ av → a ≠ sysModules → H a = some (.lst xs) → Dts av H xs ds → Dt av H (.ref a) (.list ds)
  | tup {a : Addr} {xs : List V} {ds : List PyData} : a ∉ av → H a = some (.tup xs) → Dts av H xs ds → Dt av H (.ref a) (.tuple ds)
  | dct {a : Addr} : a ∉ av → H a = some (.dK []) → Dt av H (.ref a) (.dict [])
inductive Dts (av : List Addr) (H : Hp) : List V → List PyData → Prop
  | nil : Dts av H [] []
  | cons {v : V} {vs : List V} {d : PyData} {ds : List PyData} : Dt av H v d → Dts av H vs ds → Dts av H (v :: vs) (d :: ds)
end
mutual
theorem Dt.map {av av' : List Addr} {H H' : Hp} (f : ∀ b o, H b = some o → b ∉ av → H' b = some o ∧ b ∉ av') : ∀ (d : PyData) (v : V), Dt av H v d → Dt av' H' v d
  | _, _, .non => .non
  | _, _, .bl b => .bl b
  | _, _, .int i => .int i
  | _, _, .str x => .str x
  | .list ds, _, .lst n m e s => .lst (f _ _ e n).2 m (f _ _ e n).1 (Dts.map f ds _ s)
  | .tuple ds, _, .tup n e s => .tup (f _ _ e n).2 (f _ _ e n).1 (Dts.map f ds _ s)
  | _, _, .dct n e => .dct (f _ _ e n).2 (f _ _ e n).1
theorem Dts.map {av av' : List Addr} {H H' : Hp} (f : ∀ b o, H b = some o → b ∉ av → H' b = some o ∧ b ∉ av') : ∀ (ds : List PyData) (vs : List V), Dts av H vs ds → Dts av' H' vs ds
  | _, _, .nil => .nil
  | d :: ds, _, .cons h t => .cons (Dt.map f d _ h) (Dts.map f ds _ t)
end
theorem Dt.keep {av : List Addr} {H H' : Hp} {v : V} {d : PyData} (x : Dt av H v d) (k : Keep av H H') : Dt av H' v d := Dt.map (fun b o e n => ⟨k b o e n, n⟩) d v x
theorem Dts.keep {av : List Addr} {H H' : Hp} {v : List V} {d : List PyData} (x : Dts av H v d) (k : Keep av H H') : Dts av H' v d := Dts.map (fun b o e n => ⟨k b o e n, n⟩) d v x
theorem Dt.more {av : List Addr} {H : Hp} {v : V} {d : PyData} {p : Addr} (x : Dt av H v d) (n : H p = none) : Dt (p :: av) H v d :=
  Dt.map (fun b o e nb => ⟨e, fun q => (List.mem_cons.mp q).elim (ne_of_none e n) nb⟩) d v x
theorem Dts.more {av : List Addr} {H : Hp} {v : List V} {d : List PyData} {p : Addr} (x : Dts av H v d) (n : H p = none) : Dts (p :: av) H v d :=
  Dts.map (fun b o e nb => ⟨e, fun q => (List.mem_cons.mp q).elim (ne_of_none e n) nb⟩) d v x
theorem Dt.less {av av' : List Addr} {H : Hp} {v : V} {d : PyData} (x : Dt av H v d) (s : ∀ a ∈ av', a ∈ av) : Dt av' H v d :=
  Dt.map (fun b o e nb => ⟨e, fun q => nb (s b q)⟩) d v x
theorem Dts.less {av av' : List Addr} {H : Hp} {v : List V} {d : List PyData} (x : Dts av H v d) (s : ∀ a ∈ av', a ∈ av) : Dts av' H v d :=
  Dts.map (fun b o e nb => ⟨e, fun q => nb (s b q)⟩) d v x
theorem Dts.len {av : List Addr} {H : Hp} : ∀ {vs : List V} {ds : List PyData}, Dts av H vs ds → vs.length = ds.length
  | _, _, .nil => rfl
  | _, _, .cons _ t => by rw [List.length_cons, List.length_cons, t.len]
theorem Dts.get {av : List Addr} {H : Hp} : ∀ {vs : List V} {ds : List PyData} (i : Nat) {d : PyData}, Dts av H vs ds → ds[i]? = some d → ∃ v, vs[i]? = some v ∧ Dt av H v d
  | _, _, _, _, .nil, e => by simp at e
  | _, _, 0, _, .cons h _, e => by simp at e; subst e; exact ⟨_, rfl, h⟩
  | _, _, i + 1, d, .cons _ t, e => by
    obtain ⟨u, h1, h2⟩ := Dts.get (i := i) (d := d) t (by simpa using e)
    exact ⟨u, by simpa using h1, h2⟩
theorem Dts.getv {av : List Addr} {H : Hp} : ∀ {vs : List V} {ds : List PyData} (i : Nat) {v : V}, Dts av H vs ds → vs[i]? = some v → ∃ d, ds[i]? = some d ∧ Dt av H v d
  | _, _, _, _, .nil, e => by simp at e
  | _, _, 0, _, .cons h _, e => by simp at e; subst e; exact ⟨_, rfl, h⟩
  | _, _, i + 1, d, .cons _ t, e => by
    obtain ⟨u, h1, h2⟩ := Dts.getv (i := i) (v := d) t (by simpa using e)
    exact ⟨u, by simpa using h1, h2⟩
theorem Dts.app {av : List Addr} {H : Hp} : ∀ {vs us : List V} {ds es : List PyData}, Dts av H vs ds → Dts av H us es → Dts av H (vs ++ us) (ds ++ es)
  | _, _, _, _, .nil, y => y
  | _, _, _, _, .cons h t, y => .cons h (Dts.app t y)
theorem Dts.mem {av : List Addr} {H : Hp} : ∀ {vs : List V} {ds : List PyData} {v : V}, Dts av H vs ds → v ∈ vs → ∃ d ∈ ds, Dt av H v d
  | _, _, _, .nil, e => by simp at e
  | _, _, v, .cons (d := d) h t, e => by
    rcases List.mem_cons.mp e with e | e
    · subst e; exact ⟨d, List.mem_cons_self, h⟩
    · obtain ⟨d', m, x⟩ := Dts.mem t e
      exact ⟨d', List.mem_cons_of_mem _ m, x⟩
theorem Dts.take {av : List Addr} {H : Hp} : ∀ {vs : List V} {ds : List PyData} (n : Nat), Dts av H vs ds → Dts av H (vs.take n) (ds.take n)
  | _, _, 0, _ => .nil
  | _, _, _ + 1, .nil => .nil
  | _, _, n + 1, .cons r t => .cons r (Dts.take n t)
theorem Dts.drop {av : List Addr} {H : Hp} : ∀ {vs : List V} {ds : List PyData} (n : Nat), Dts av H vs ds → Dts av H (vs.drop n) (ds.drop n)
  | _, _, 0, r => r
  | _, _, _ + 1, .nil => .nil
  | _, _, n + 1, .cons _ t => Dts.drop n t
theorem Dts.rev {av : List Addr} {H : Hp} : ∀ {vs : List V} {ds : List PyData}, Dts av H vs ds → Dts av H vs.reverse ds.reverse
  | _, _, .nil => .nil
  | _, _, .cons r t => by rw [List.reverse_cons, List.reverse_cons]; exact Dts.app t.rev (.cons r .nil)
theorem Dts.ints {av : List Addr} {H : Hp} : ∀ ns : List Int, Dts av H (ns.map V.int) (ns.map PyData.int)
  | [] => .nil
  | n :: ns => .cons (.int n) (Dts.ints ns)
end Rw

namespace Rw
open PySem PySem.Spec PyProof.Rows L2
/-! ### repr of data -/
section
variable {X : Cx} {pins : List (Addr × Obj)} {σ : L2.St} {H : Hp} {s : Shared} {av : List Addr}
mutual
theorem Dt.told (I : Inv X pins σ H s) : ∀ (d : PyData) (v : V) (u : Value), Dt av H v d → RelV v u → ∃ as, Reads s.heap u d as ∧ sysModules ∉ as
  | .none, _, _, h, r => by
    cases h; cases r; exact ⟨_, .none, by simp⟩
  | .bool b, _, _, h, r => by
    cases h; cases r; exact ⟨_, .bool b, by simp⟩
  | .int i, _, _, h, r => by
    cases h; obtain ⟨t, rfl⟩ := r; exact ⟨_, .int i t, by simp⟩
  | .str x, _, _, h, r => by
    cases h; obtain ⟨t, rfl⟩ := r; exact ⟨_, .str x t, by simp⟩
  | .list ds, _, _, h, r => by
    cases h with
    | lst na ms e da =>
      cases r
      obtain ⟨its, rv, ⟨o, n, ho, hc, _, hd⟩, _⟩ := I.list (SqL.of e)
      obtain ⟨as, hr, hn⟩ := Dts.told I ds _ its da rv
      exact ⟨_, .list ho hc hd hr, fun q => (List.mem_cons.mp q).elim (Ne.symm ms) hn⟩
  | .tuple ds, _, _, h, r => by
    cases h with
    | tup na e da =>
      cases r
      obtain ⟨its, rv, ⟨o, ho, hc, n, hd⟩, _⟩ := I.tuple (SqT.of e)
      obtain ⟨as, hr, hn⟩ := Dts.told I ds _ its da rv
      exact ⟨_, .tuple ho hc hd hr, hn⟩
  | .dict kvs, _, _, h, r => by
    cases h with
    | dct na e =>
      cases r
      obtain ⟨_, nsm, vs, kv, o, es, ep, ho, ex, hd, _, pr, _⟩ := I.hok _ _ e
      cases kv
      have e0 : es.toList = [] := by
        cases hq : es.toList with
        | nil => rfl
        | cons y ys => rw [hq] at pr; cases pr
      refine ⟨_, .dict (kvs := []) ho ex.1 hd (as := []) (bs := []) ?_ ?_, ?_⟩
      · rw [e0]; exact .nil
      · rw [e0]; exact .nil
      · intro q
        simp only [List.append_nil, List.mem_cons, List.not_mem_nil, or_false] at q
        rw [← q] at nsm
        exact absurd nsm (by decide)
theorem Dts.told (I : Inv X pins σ H s) : ∀ (ds : List PyData) (vs : List V) (us : List Value), Dts av H vs ds → Vals vs us → ∃ as, ReadsAll s.heap us ds as ∧ sysModules ∉ as
  | [], _, _, h, r => by
    cases h; cases r; exact ⟨_, .nil, by simp⟩
  | d :: ds, _, _, h, r => by
    cases h with
    | cons h1 h2 =>
      cases r with
      | cons r1 r2 =>
        obtain ⟨as, q1, n1⟩ := Dt.told I d _ _ h1 r1
        obtain ⟨bs, q2, n2⟩ := Dts.told I ds _ _ h2 r2
        exact ⟨_, .cons q1 q2, fun q => (List.mem_append.mp q).elim n1 n2⟩
end
end
section
variable {X : Cx}
def rRepr : List V → Hp → VK → Prop := fun xs H Q => ∃ (a : Addr) (d : PyData) (av : List Addr), xs = [.ref a] ∧ Dt av H (.ref a) d ∧ d.showable = true ∧ d.depth ≤ 64 ∧ d.shown.length ≤ sizeLine ∧ Q (.str d.shown) H
theorem call_reprD (hg : X.A.guards = some []) (hu : X.A.units + 70 < cLine) : CallR X (.builtin "repr") rRepr := by
  intro pins s σ H xs us Q I r h
  obtain ⟨a, d, av, rfl, hd, hs, hdp, hz, q⟩ := h
  obtain ⟨u, rfl, ru⟩ := vals1 r
  obtain ⟨as, rd, na⟩ := Dt.told I d _ _ hd ru
  cases ru
  exact repr_of_reads' rd hs (fun _ => na) hg (by omega) (fun _ _ e => e) (fun h' t tk k => ⟨.str d.shown, H, I.kept (t' := tk) k, ⟨t, rfl⟩, q⟩) hz
/-! new lists stand elsewhere than the modules' table -/
def tLstN (t : TA) : TE := fun σ H Q => t σ H fun xs H1 => xs.length ≤ sizeLine ∧ ∀ p, H1 p = none → p ≠ sysModules → Q (.ref p) (upd H1 p (.lst xs))
theorem pe_lstN {es : List Expr} {t : TA} {pos : Pos} (h : PA X es t) : PE X (.List es pos) (tLstN t) :=
  ⟨fun pins s σ H Q I hq => wpAny_List_spliced (thn (h.run pos pins s σ H _ I hq) fun us s1 ⟨xs, H1, I1, r, z, q⟩ => ⟨by rw [← r.length]; exact z,
    ⟨.ref s1.heap.objs.size, _, I1.laid (t' := s1.toks) (fun b u e => Heap.get?_push_of_some _ e) (Nat.le_refl _) (show ObjOk X.prog X.w _ _ _ (.lst xs) from ⟨z, us, 0, r, Heap.get?_push_size _ rfl⟩), rfl, q _ (I1.hok.fresh (Nat.le_refl _)) (Nat.ne_of_gt I1.big)⟩⟩)⟩
def rListN (K : PySem.W.Frag) : List V → Hp → VK → Prop := fun xs H Q => ∃ p ys, xs = [.ref p] ∧ SqT K H p ys ∧ ∀ l, H l = none → l ≠ sysModules → Q (.ref l) (upd H l (.lst ys))
theorem call_listN : CallR X (.type "list") (rListN X.K) := by
  intro pins s σ H xs us Q I r h
  obtain ⟨p, ys, rfl, hq, q⟩ := h
  rw [Vals.ref1 r]
  obtain ⟨its, r', ⟨o, ho, hc, n, hd⟩, hz⟩ := I.tuple hq
  have ln := r'.length
  exact call_list_seq p (.inr rfl) ho hc hd (fun h' c' kp e => ⟨.ref s.heap.objs.size, _, I.laid (t' := s.toks) kp (Nat.le_refl _) (show ObjOk X.prog X.w _ h' _ (.lst ys) from ⟨hz, its, c', r', e⟩), rfl, q _ (I.hok.fresh (Nat.le_refl _)) (Nat.ne_of_gt I.big)⟩) (by simp only [List.size_toArray] <;> omega)
end
end Rw

namespace Rw
open PySem PySem.Spec PyProof.Rows L2
/-! ### t[::-1] of a tuple -/
theorem back_adj (n : Nat) : Builtin.Slice.sliceAdjust none none (-1) (n : Int) = ((n : Int) - 1, -1) := by
  unfold Builtin.Slice.sliceAdjust
  have h1 : ((-1 : Int) < 0) := by omega
  simp only [h1, if_true]
theorem back_places (n : Nat) : Builtin.Slice.slicePlaces ((n : Int) - 1) (-1) (-1) = n := by
  unfold Builtin.Slice.slicePlaces
  have h1 : ¬ ((-1 : Int) > 0) := by omega
  simp only [h1, if_false]
  have e : ((n : Int) - 1 - -1 - 1) / - -1 = (n : Int) - 1 := by
    rw [show (- -1 : Int) = 1 by decide, Int.ediv_one]; omega
  rw [e]
  split <;> omega
theorem back_pick (xs : Array Value) : ((List.range xs.size).filterMap fun (m : Nat) => xs[((xs.size : Int) - 1 + (m : Int) * (-1)).toNat]?).toArray = xs.toList.reverse.toArray := by
  congr 1
  obtain ⟨l⟩ := xs
  simp only [List.size_toArray, List.getElem?_toArray]
  apply List.ext_getElem?
  intro i
  have key : ∀ k : Nat, k ≤ l.length → ((List.range k).filterMap fun (m : Nat) => l[((l.length : Int) - 1 + (m : Int) * (-1)).toNat]?) = l.reverse.take k := by
    intro k
    induction k with
    | zero => intro _; simp
    | succ k ih =>
      intro hk
      rw [List.range_succ, List.filterMap_append, ih (by omega), List.take_add_one]
      congr 1
      have e : ((l.length : Int) - 1 + (k : Int) * (-1)).toNat = l.length - 1 - k := by omega
      rw [List.filterMap_cons, e, List.getElem?_reverse (by omega)]
      rw [List.getElem?_eq_getElem (show l.length - 1 - k < l.length by omega)]
      rfl
  rw [key l.length (Nat.le_refl _), List.take_of_length_le (by rw [List.length_reverse]; exact Nat.le_refl _)]
section
variable {prog : Program} {w : World} {A : Around} {E : Value → Shared → Prop} {s : Shared}
theorem back_applied {sl : Addr} {tk : Tok} {n : Nat} {Q : Int × Int × Nat → Shared → Prop} (hs : s.heap.IsSliceOf sl .none .none (.int (-1) tk))
    (h : Q ((n : Int) - 1, -1, n) s) : wpAny (model prog w) A (Builtin.Slice.sliceApplied (.ref sl) (pure (n : Int))) Q E s := by
  obtain ⟨ob, e1, e2, e3⟩ := id hs
  unfold Builtin.Slice.sliceApplied Builtin.Slice.sliceFields
  refine wpAny_bind (wpAny_bind (wpAny_field e1 e3 (x := .none) rfl (wpAny_bind (wpAny_field e1 e3 (x := .none) rfl (wpAny_bind (wpAny_field e1 e3 (x := .int (-1) tk) rfl (wpAny_pure ?_)))))))
  refine wpAny_bind (slicePart_int ?_)
  show wpAny _ _ (if ((-1 : Int) == 0) = true then _ else _) _ _ s
  rw [if_neg (show ¬ ((-1 : Int) == 0) = true by decide)]
  refine wpAny_bind (slicePart_none (wpAny_bind (slicePart_none (wpAny_bind (wpAny_pure ?_)))))
  show wpAny _ _ (match Builtin.Slice.sliceAdjust none none (-1) (n : Int) with | (lo, hi) => pure (lo, (-1 : Int), Builtin.Slice.slicePlaces lo hi (-1))) _ _ s
  rw [back_adj n]
  show wpAny _ _ (pure ((n : Int) - 1, (-1 : Int), Builtin.Slice.slicePlaces ((n : Int) - 1) (-1) (-1))) _ _ s
  rw [back_places]
  exact wpAny_pure h
theorem back_item {t sl : Addr} {items : Array Value} {tk : Tok} {Q : Value → Shared → Prop} (ht : IsTup s.heap t items) (hs : s.heap.IsSliceOf sl .none .none (.int (-1) tk))
    (h : Q (.ref s.heap.objs.size) { s with heap := s.heap.push { cls := .type "tuple", data := .seq items.toList.reverse.toArray } })
    (hz : items.size ≤ sizeLine) : wpAny (model prog w) A (getItem (.ref t) (.ref sl)) Q E s := by
  have ok : sizeOk (.seq items.toList.reverse.toArray) := by
    show items.toList.reverse.toArray.size ≤ sizeLine
    rw [List.size_toArray, List.length_reverse, Array.length_toList]; exact hz
  obtain ⟨ob, e1, e2, e3⟩ := id hs
  have isl : s.TypeIs (.ref sl) "slice" := ⟨ob, e1, e2⟩
  unfold getItem
  (try with_reducible refine wpAny_holding ?_)
  (first | refine wpAny_bind (wpAny_pure ?_) | skip)
  refine wpAny_bind (wpAny_sequenceKey (ht.typeIs) (by decide) ?_)
  refine wpAny_bind (wpAny_callSpecial?_slot (name := Str.ofString "__getitem__") ht.typeIs PyProof.Rows.slot_tuple_getitem (wpAny_call_entry PyProof.Rows.slot_tuple_getitem ht.typeIs entry_tuple_getitem ?_ (args_tuple_getitem _ _)))
  show wpAny _ _ (Builtin.Tuple.tupleItemsOf (Value.ref t) >>= _) _ _ s
  refine wpAny_bind (tupleItemsOf_ ht (wpAny_bind (wpAny_typeOf isl ?_)))
  rw [if_pos (show _ = true by decide)]
  refine wpAny_bind (back_applied hs ?_)
  have no : ¬ ((((items.size : Int) - 1) == 0 && (-1 : Int) == 1 && items.size == items.size) = true) := by
    intro q
    rw [Bool.and_eq_true, Bool.and_eq_true] at q
    exact absurd (eq_of_beq q.1.2) (by decide)
  show wpAny _ _ (if (((items.size : Int) - 1) == 0 && (-1 : Int) == 1 && items.size == items.size) = true then _ else _) _ _ s
  rw [if_neg no, back_pick]
  first
    | exact wpAny_bind (m := Builtin.Tuple.tupleExact _) (wpAny_newObj_type (wpAny_pure ⟨_, rfl, wpAny_pure h⟩) ok)
    | exact wpAny_bind (m := Builtin.Tuple.tupleExact _) (wpAny_newObj_type (wpAny_bind (wpAny_pure (wpAny_pure ⟨_, rfl, wpAny_pure h⟩))) ok)
    | exact wpAny_bind (wpAny_bind (m := Builtin.Tuple.tupleExact _) (wpAny_newObj_type (wpAny_pure (wpAny_pure ⟨_, rfl, wpAny_pure h⟩)) ok))
    | exact wpAny_bind (wpAny_bind (m := Builtin.Tuple.tupleExact _) (wpAny_newObj_type (wpAny_pure ⟨_, rfl, wpAny_pure h⟩) ok))
end
section
variable {X : Cx}
def tBack (K : PySem.W.Frag) (te : TE) : TE := fun σ H Q => te σ H fun x H1 => ∃ a xs, x = .ref a ∧ SqT K H1 a xs ∧ ∀ p, H1 p = none → Q (.ref p) (upd H1 p (.tup xs.reverse))
theorem pe_back {e : Expr} {te : TE} {k : Nat} {p1 p2 p3 pos : Pos} (he : PE X e te) : PE X (.Subscript e (.Slice none none (some (.UnaryOp .USub (.Constant (.int 1) k p1) p2)) p3) pos) (tBack X.K te) := by
  refine ⟨fun pins s σ H Q I h => Subscript_ (thn (he.run pins s σ H _ I h) fun v s1 ⟨x, H1, I1, r1, a, xs, ex, hx, q⟩ => ?_)⟩
  subst ex
  cases r1
  have st : PO X (some (.UnaryOp .USub (.Constant (.int 1) k p1) p2)) (tPart (tUn (rU fun i => .int (-i)) (tC (.int 1)))) := po_some (pe_un un_neg pe_int)
  refine wpAny_Slice (thn (po_none.run pins s1 σ H1 (fun o G => o = none ∧ G = H1) I1 ⟨rfl, rfl⟩) fun vl s2 ⟨l, H2, I2, pl, el, e2⟩ => ?_)
  subst el e2
  refine thn (po_none.run pins s2 σ H2 (fun o G => o = none ∧ G = H2) I2 ⟨rfl, rfl⟩) fun vu s3 ⟨u, H3, I3, pu, eu, e3⟩ => ?_
  subst eu e3
  refine thn (st.run pins s3 σ H3 (fun o G => o = some (-1) ∧ G = H3) I3 ⟨1, rfl, -1, rfl, rfl, rfl⟩) fun vs s4 ⟨o, H4, I4, ps, eo, e4⟩ => ?_
  subst eo e4
  have I5 : Inv X pins σ H4 { s4 with heap := s4.heap.push { cls := .type "slice", data := .fields #[vl, vu, vs] } } := I4.kept (t' := s4.toks) (fun b ob z => Heap.get?_push_of_some _ z)
  obtain ⟨its, r, ht, hz⟩ := I5.tuple hx
  have ln := r.length
  cases pl
  cases pu
  obtain ⟨tk, rfl⟩ : ∃ tk, vs = Value.int (-1) tk := by
    cases ps; exact ⟨_, rfl⟩
  show wpAny (model X.prog X.w) X.A (subscriptTail e (.Slice none none (some (.UnaryOp .USub (.Constant (.int 1) k p1) p2)) p3) (.ref a) (.ref s4.heap.objs.size)) (EP X pins σ Q) X.xe { s4 with heap := s4.heap.push { cls := .type "slice", data := .fields #[.none, .none, .int (-1) tk] } }
  refine tail_any (ops := [.ref a, .ref s4.heap.objs.size]) ht.typeIs PyProof.Rows.slot_tuple_getitem.lookup ?_ (by with_unfolding_all rfl)
  refine back_item ht (Heap.IsSliceOf.new _ _ _ _) ?_ (by rw [List.size_toArray]; omega)
  refine ⟨.ref _, _, I5.laid (t' := s4.toks) (o := .tup xs.reverse) (fun b ob z => Heap.get?_push_of_some _ z) (Nat.le_refl _) ?_, rfl, q _ (I5.hok.fresh (Nat.le_refl _))⟩
  exact ⟨by rw [List.length_reverse]; exact hz, its.reverse, r.reverse, ⟨_, Heap.get?_push_size _ rfl, rfl, _, rfl⟩⟩
end
end Rw

namespace Rw
open PySem PySem.Spec PyProof.Rows L2
/-! ### set(xs) of a list of hin, its order left open -/
abbrev set0 (w : World) : Obj := { cls := .type "set", dict := none, data := .set #[] 0 (.fresh 0 0 (!w.params.followText "set-order")) }
section
variable {P : Program} {w : World} {A : Around} {E : Value → Shared → Prop} {s : Shared}
theorem set_of_list {l : Addr} {its : Array Value} (ns : List Int) {Q : Value → Shared → Prop} (calm : A.handled = none) (hl : s.heap.IsList l its) (hin : IntsAre its.toList ns) (few : ns.length + 1 < scanBound)
    (h : ∀ (h' : Heap) (tk c : Nat), SetR w h' s.heap.objs.size (fun j => decide (j ∈ ns)) c → c ≤ ns.length → (∀ b o, s.heap.get? b = some o → h'.get? b = some o) → Q (.ref s.heap.objs.size) { s with heap := h', toks := tk }) :
    wpAny (model P w) A (call (.type "set") [.ref l]) Q E s := by
  have isz : its.size = ns.length := (Array.length_toList (xs := its)).symm.trans (IntsAre.length hin)
  obtain ⟨c, tl, m1⟩ := F.called_set.mro
  have m2 := F.called_set.made
  have m3 := F.called_set.sub
  refine wpAny_call (codeAny_of_tree (show wpAny _ _ (callAny (.type "set") _) _ _ _ from ?_))
  refine wpAny_pure ⟨Code.quiet_builtin _ (by decide +kernel), codeAny_builtin (F.entry_type_call) ?_⟩
  rw [Around.under_plain (weight_type_call_type "set" [Value.ref l] []) rfl]
  have m4 := F.called_set.notType
  have m5 := F.called_set.canCreate
  have m6 := F.typeCall_set_1 (Value.ref l)
  repeat any_goals (first | assumption | wp_step)
  refine codeAny_mono (code_set_led1 (Value.ref l) (E := E) (Q₁ := fun ob s1 => ob = .ref s.heap.objs.size ∧ s1 = { s with heap := s.heap.push (set0 w) }) ⟨rfl, rfl⟩) fun r s1 hr => ?_
  cases r with
  | error e => exact hr
  | ok fl =>
    cases fl with
    | ret ob =>
      obtain ⟨rfl, rfl⟩ := hr
      have at0 : (s.heap.push (set0 w)).get? s.heap.objs.size = some (set0 w) := Heap.get?_push_size _ rfl
      have ty : Shared.TypeIs { s with heap := s.heap.push (set0 w) } (.ref s.heap.objs.size) "set" := ⟨_, at0, rfl⟩
      have m7 := F.called_set.init.lookup
      have m8 := F.called_set.init.bind (Value.ref s.heap.objs.size)
      repeat any_goals (first | assumption | wp_step)
      refine codeAny_mono (codeAny_call_builtin (R := wants (fun r s2 => r = .none ∧ ∃ h' tk c, s2 = { s with heap := h', toks := tk } ∧ SetR w h' s.heap.objs.size (fun j => decide (j ∈ ns)) c ∧ c ≤ ns.length ∧ (∀ b o, s.heap.get? b = some o → h'.get? b = some o)) E)
        F.called_set.init.plain F.entry_set_init (check_set_init_1 ty ?_)) fun r2 s2 hr2 => ?_
      · obtain ⟨⟨oc, od, odata, osl⟩, e0, e1, nl, e2⟩ := hl
        simp only at e1 e2
        subst e1; subst e2
        have e3 : (s.heap.push (set0 w)).get? l = some { cls := .type "list", dict := od, data := .seq its nl, slots := osl } := Heap.get?_push_of_some _ e0
        have n1 := F.sub_list_set
        have n2 := F.sub_list_frozenset
        have n3 : (Value.type "list" == Value.type "dict") = false := by decide
        have hl1 : (s.heap.push (set0 w)).IsList l its := ⟨_, e3, rfl, nl, rfl⟩
        unfold Builtin.«set.__init__» noKeywords Builtin.Frozenset.updateFrom
        generalize gi : pyIter = PI
        wp_walk
        subst gi
        refine wpAny_pyIter_list hl1 (wpAny_bind (wpAny_runValue ?_))
        have lt0 : l < s.heap.objs.size := Heap.lt_size e0
        have calm3 : A.in1.in1.in1.handled = none := by simp [calm]
        have ne1 : l ≠ (s.heap.push (set0 w)).objs.size := by
          rw [Heap.size_push]; exact Nat.ne_of_lt (Nat.lt_succ_of_lt lt0)
        have ne2 : s.heap.objs.size ∉ [(s.heap.push (set0 w)).objs.size, l] := by
          rw [Heap.size_push]
          intro q
          simp only [List.mem_cons, List.not_mem_nil, or_false] at q
          exact q.elim (Nat.ne_of_lt (Nat.lt_succ_self _)) (Nat.ne_of_gt lt0)
        have val : ∀ (i : Nat) (v : Value), its[i]? = some v → ∃ k t, ns[i]? = some k ∧ v = .int k t := fun i v hv => by
          have hi : i < ns.length := by rw [← isz]; exact (Array.getElem?_eq_some_iff.mp hv).1
          obtain ⟨t, e⟩ := PyProof.Rows.IntsAre.int_at hin i v (by rw [Array.getElem?_toList]; exact hv)
          refine ⟨ns[i], t, List.getElem?_eq_getElem hi, e.trans ?_⟩
          rw [List.getD_eq_getElem?_getD, List.getElem?_eq_getElem hi]; rfl
        refine set_update_ints ((Walks.list calm3 _ l ne1 its).toS) s.heap.objs.size ne2 ns isz few val (its.size - 0) 0 _ (by omega) (Nat.zero_le _) ⟨⟨_, Heap.get?_push_size _ rfl, rfl, rfl⟩, (hl1.push _)⟩ ?start ?fin
        case start => exact ⟨0, Nat.le_refl 0, setR_new_at (Heap.get?_push_of_some _ at0)⟩
        case fin =>
          intro s3 c3 mv le3 R3
          obtain ⟨h3, g3, d3, t3, o3⟩ := s3
          obtain rfl : g3 = s.gens := mv.gens
          obtain rfl : d3 = s.drawn := mv.drawn
          obtain rfl : o3 = s.os := mv.os
          show wpAny _ _ _ _ _ _
          refine wpAny_pure (show wpAny _ _ (ret Value.none) _ _ _ from ?_)
          rw [isz] at le3
          refine wpAny_pure ⟨rfl, h3, t3, c3, rfl, R3, le3, fun b o e => ?_⟩
          have lb : b < s.heap.objs.size := Heap.lt_size e
          refine mv.heap b o (fun q => ?_) (Heap.get?_push_of_some _ (Heap.get?_push_of_some _ e))
          rw [Heap.size_push] at q
          simp only [List.mem_cons, List.not_mem_nil, or_false] at q
          exact q.elim (Nat.ne_of_lt lb) (Nat.ne_of_lt (Nat.lt_succ_of_lt lb))
      · cases r2 with
        | error e => exact hr2
        | ok f2 =>
          cases f2 with
          | ret r =>
            obtain ⟨rfl, h', tk, c3, rfl, R3, le3, k3⟩ := hr2
            repeat any_goals (first | assumption | wp_step)
            exact h _ _ _ R3 le3 k3
          | _ => exact hr2.elim
    | _ => exact hr.elim
end
section
variable {X : Cx}
def rSetL (K : PySem.W.Frag) (w : World) : List V → Hp → VK → Prop := fun xs H Q => ∃ (p : Addr) (ns : List Int), xs = [.ref p] ∧ SqL K H p (ns.map V.int) ∧ ns.length ≤ 1000 ∧
  ∀ (a : Addr) (c : Nat), H a = none → c ≤ ns.length → Q (.ref a) (upd H a (SetO w a (fun j => decide (j ∈ ns)) c))
theorem cr_setL (hc : X.calm = true) : CallR X (.type "set") (rSetL X.K X.w) := by
  intro pins s σ H xs us Q I r h
  obtain ⟨p, ns, rfl, hS, few, q⟩ := h
  rw [Vals.ref1 r]
  obtain ⟨its, rv, pl, hz⟩ := I.list hS
  refine set_of_list ns (I.ok.hd hc) pl.isList (by simpa using intsAre_of rv) (by unfold scanBound; omega) fun h' tk c R le k => ?_
  exact ⟨.ref _, _, I.laid (t' := tk) k (Nat.le_refl _) (setO_new R), rfl, q _ c (I.hok.fresh (Nat.le_refl _)) le⟩
end
end Rw

namespace Rw
open PySem PySem.Spec PyProof.Rows L2
/-! ### the law's own def, called where nothing is being shown (callerA), over a base that is known -/
def AtTop (P : Program) (w : World) (K : PySem.W.Frag) (mg : Str → Option Value) (base : Heap) (f : Addr) (fd : FuncData) (x : Str) (sp : Sp) : Prop :=
  ∀ (s : Shared) (H : Hp) (u : Value) (v : V) (Q : VK), Env0 P w K mg base callerA [] s H → BindsTo s fd ⟨[u], []⟩ [(x, u)] → RelV v u → sp [v] H Q E0 →
    codeAny (model P w) callerA (.call (.ref f) ⟨[u], []⟩) (CR CX0 [] P w H s Q E0) s
section
variable {P : Program} {w : World} {K : PySem.W.Frag} {mg : Str → Option Value} {base : Heap}
theorem atTop_of {f : Addr} {x q y : Str} {st : Stmt} {fd : FuncData} {N : List Str} {k : Nat} {sp : Sp} (F : Fun K x q st f fd) (S : FnScope N [y] (defScope st)) (room : Room (k + 1) callerA)
    (body : ∀ (cdv : Value) (s : Shared) (H : Hp) (v : V) (Q : VK), Room k (callerA.deeper (envOfC q (defScope st) s.heap.objs.size f cdv)) → sp [v] H Q E0 →
      ∃ t, PSs (cxOf CX0 P w K mg base N q (defScope st) f cdv callerA [] s H E0) (defBody st) t ∧ t { nx := fun _ H' => Q .non H', rt := Q } (start N [v]) H) : AtTop P w K mg base f fd y sp := by
  obtain ⟨oc, od, kV, doc, pm, an, cdv, ct, osl, rfl, lk, hcd⟩ := F.ex
  intro s H u v Q e0 hb r hsp
  have KX : K.In s.heap := e0.mod.kin.keeps (fun b o e => (e0.bs b o e).1)
  have lim : s.heap.NoLimit := e0.mod.nolimit.keeps (fun b o e => (e0.bs b o e).1)
  have kinds : ∀ z ∈ [y].zip [u], (defScope st).names.lookup z.1 = some .local ∨ ((defScope st).names.lookup z.1 = some .cell ∧ ((cellsFrom (s.heap.objs.size + 1) (defScope st).names []).lookup z.1).isSome = true) := fun ⟨n, v⟩ hz => by
    rcases S.par n (List.of_mem_zip hz).1 with g | g
    · exact Or.inl g
    · exact Or.inr ⟨g, PySem.W.cellsFrom_some _ _ _ (.inl g)⟩
  refine codeAny_call_function room.depth (KX _ _ lk) rfl S.co S.gen rfl (PySem.W.codeRec_of KX hcd) (hb _ _ _ _ (wpAny_newFunctionEnv_cells S.kind kinds fun env he s1 ic => ?_))
  subst he
  refine ⟨lim.keeps ic.toInCall.keep, codeAny_func ?_⟩
  obtain ⟨t, ht, hq⟩ := body cdv s H v Q (room.deeper _) hsp
  have I : Inv (cxOf CX0 P w K mg base N q (defScope st) f cdv callerA [] s H E0) [] (start N [v]) H s1 := inv_start S room.hd e0 rfl (.cons r .nil) ic
  refine wpAny_mono (ht.run [] s1 (start N [v]) H _ I hq) (fun fl s2 hs => ?_) fun e s2 hs => hs
  cases fl with
  | ret u2 =>
    obtain ⟨v2, σ2, H2, J, rv, z⟩ := hs
    exact ⟨v2, H2, J.os, J.bare, J.base, J.hok, rv, z⟩
  | next =>
    obtain ⟨σ2, H2, J, z⟩ := hs
    exact ⟨V.non, H2, J.os, J.bare, J.base, J.hok, rfl, z⟩
  | brk =>
    obtain ⟨_, _, _, z⟩ := hs
    exact False.elim z
  | cont =>
    obtain ⟨_, _, _, z⟩ := hs
    exact False.elim z
theorem law_at {mb : Str → Option Value} {fa a : Addr} {fd : FuncData} {x : Str} {sp : Sp} {s1 : Shared} {vs : List Value} {ns : List Int}
    (KX : K.In s1.heap) (hns : s1.heap.Ns mainGlobals mg) (hb : s1.heap.Ns builtinsNs mb) (hbb : ∀ x : Str, x ≠ "__name__" → mb x = bootBuiltins x) (lim : s1.heap.NoLimit) (hg : s1.gens = #[])
    (ha : s1.heap.get? a = some { cls := .type "list", data := .seq vs.toArray }) (hi : IntsAre vs ns) (hl : ns.length ≤ sizeLine)
    (F : ∀ base : Heap, K.In base → base.Ns mainGlobals mg → AtTop P w K mg base fa fd x sp) (hbind : ∀ (s : Shared) (u : Value), BindsTo s fd ⟨[u], []⟩ [(x, u)])
    (hsp : ∀ H : Hp, Only H → SqL K H a (ns.map V.int) → sp [.ref a] H (fun v _ => v = .bl true) E0) :
    codeAny (model P w) callerA (.call (.ref fa) ⟨[.ref a], []⟩) (fun r s' => r = .ok (.ret (.bool true)) ∧ OldK s1.heap s'.heap ∧ s'.os = s1.os ∧ AllBare s'.gens) s1 := by
  have core : ∀ H : Hp, Only H → SqL K H a (ns.map V.int) → HOk P w H s1.heap → (∀ b, H b ≠ none → b = a) → (H a ≠ none → K.lookup a = none) →
      codeAny (model P w) callerA (.call (.ref fa) ⟨[.ref a], []⟩) (fun r s' => r = .ok (.ret (.bool true)) ∧ OldK s1.heap s'.heap ∧ s'.os = s1.os ∧ AllBare s'.gens) s1 := by
    intro H hO hS hok hA hK
    have hid : ∀ {b : Addr} {o : Obj}, s1.heap.get? b = some o → H b = none → (hidT s1.heap H).get? b = some o := fun e n => hidT_get e n
    have only : ∀ {b : Addr} {u : HO}, H b = some u → b = a := fun {b u} z => hA b (by rw [z]; exact Option.some_ne_none _)
    have dict_no : ∀ {b : Addr} {o : Obj} {es : Array DictEntry} {ep : Nat}, s1.heap.get? b = some o → o.data = .dict es ep → H b = none := fun {b o es ep} e d => by
      cases z : H b with
      | none => rfl
      | some u =>
        have e' := only z
        subst e'
        rw [ha] at e; cases e
        exact nomatch (show Data.seq vs.toArray _ = Data.dict es ep from d)
    have ns_of : ∀ {b : Addr} {m : Str → Option Value}, s1.heap.Ns b m → (hidT s1.heap H).Ns b m := fun {b m} ⟨o, es, ep, e, d, r⟩ => ⟨o, es, ep, hid e (dict_no e d), d, r⟩
    have kb : K.In (hidT s1.heap H) := fun b o e => hid (KX b o e) (by
      cases z : H b with
      | none => rfl
      | some u =>
        have e' := only z
        subst e'
        rw [hK (by rw [z]; exact Option.some_ne_none _)] at e; cases e)
    have md : Mod K mg (hidT s1.heap H) := ⟨kb, ns_of hns, ⟨mb, ns_of hb, hbb⟩, let ⟨mc, h1, h2⟩ := lim; ⟨mc, ns_of h1, h2⟩⟩
    have e0 : Env0 P w K mg (hidT s1.heap H) callerA [] s1 H := ⟨rfl, md, fun b o e => of_hidT e, Nat.le_of_eq (hidT_size _ _), trivial, fun b z => absurd (show b ∈ ([] : List Addr) from z) List.not_mem_nil, hok, .of_eq hg⟩
    refine codeAny_mono (F _ kb (ns_of hns) s1 H (.ref a) (.ref a) _ e0 (hbind s1 (.ref a)) rfl (hsp H hO hS)) fun r s2 h => ?_
    cases r with
    | error e => exact False.elim h
    | ok fl =>
      cases fl with
      | next => exact False.elim h
      | brk => exact False.elim h
      | cont => exact False.elim h
      | ret u =>
        obtain ⟨v, H2, os, bare, un, hok2, r2, z⟩ := h
        obtain rfl : v = .bl true := z
        obtain rfl : u = Value.bool true := r2
        refine ⟨rfl, OldK.of_keep (fun b o e => ?_), os, bare⟩
        rcases hO b with z | ⟨ob, xs, z⟩
        · exact un.keep b o e z (fun y => absurd (show b ∈ ([] : List Addr) from y) List.not_mem_nil) List.not_mem_nil
        · obtain ⟨e1, _⟩ := hok b _ z
          obtain ⟨e2, _⟩ := hok2 b _ (un.frzs b ob _ z)
          rw [e] at e1; cases e1
          exact e2
  have rv := vals_ints hi
  have ln := hi.length
  cases hk : K.lookup a with
  | some o =>
    have e := KX a o hk
    rw [ha] at e
    cases e
    exact core (fun _ => none) (fun _ => .inl rfl) (.inr ⟨_, vs.toArray, _, hk, rfl, rfl, rfl, by rw [List.size_toArray, ln]; exact hl, by simpa using rv⟩) (fun b u z => nomatch (show (none : Option HO) = some u from z)) (fun b z => absurd rfl z) (fun z => absurd rfl z)
  | none =>
    refine core (upd (fun _ => none) a (.frz { cls := .type "list", data := .seq vs.toArray } (.lst (ns.map V.int)))) (fun b => ?_) (.inl (.inr ⟨{ cls := .type "list", data := .seq vs.toArray }, upd_same⟩)) (fun b u z => ?_) (fun b z => ?_) (fun _ => hk)
    · by_cases e : b = a
      · rw [e]; exact .inr ⟨_, _, upd_same⟩
      · exact .inl (upd_ne e)
    · by_cases e : b = a
      · subst e
        rw [upd_same] at z
        cases z
        exact ⟨ha, by rw [List.length_map]; exact hl, vs, _, rv, ha⟩
      · rw [upd_ne e] at z
        cases z
    · by_cases e : b = a
      · exact e
      · exact absurd (upd_ne e) z
end
/-! what k_head leaves, from the law's promise -/
theorem walk_top {l : PySem.W.OpenLaw} {n : Nat} {q : Program} {loose : List Str} {XP : (Str → Option Value) → Heap → Prop} {YP : World → Heap → Prop} {d : DefRec} {K : Params → PySem.W.Frag} {sp : World → Sp} {x : Str}
    (hn : l.most = some n) (hn2 : n ≤ sizeLine) (hdf : d.params.defaults = []) (hY : ∀ (w : World) (h : Heap), YP w h → (K w.params).In h)
    (F : ∀ (w : World) (mg : Str → Option Value) (fa : Addr) (h : Heap), (K w.params).In h → h.Ns mainGlobals mg → mg d.name = some (.ref fa) →
      ∃ fd : FuncData, (∀ (s : Shared) (u : Value), BindsTo s fd ⟨[u], []⟩ [(x, u)]) ∧ ∀ base : Heap, (K w.params).In base → base.Ns mainGlobals mg → AtTop l.prog w (K w.params) mg base fa fd x (sp w))
    (hsp : ∀ (w : World) (H : Hp) (a : Addr) (ns : List Int), ns.length ≤ n → Only H → SqL (K w.params) H a (ns.map V.int) → sp w [.ref a] H (fun v _ => v = .bl true) E0) :
    PySem.W.WalkO q loose XP YP l.row.toRowW d [] (fun f vs => PySem.call f vs) := by
  refine Att.attach_call hn hdf (fun w s0 s1 mg mb fa o pm cd doc a vs ns G Y ho hd hcd hmg hobj hin hlen hg => ?_)
  have KX := hY w _ Y
  obtain ⟨fd, hb, hF⟩ := F w mg fa _ KX G.T.g hmg
  exact law_at KX G.T.g G.T.b G.T.builtins G.T.nolimit hg hobj hin (Nat.le_trans hlen hn2) hF hb (fun H hO hS => hsp w H a ns hlen hO hS)
end Rw

namespace Rw
open PySem PySem.Spec PyProof.Rows L2
/-! ### the text -/
def topS (i : Nat) : Stmt := PySem.Challenge.pw_ropewarren_k01_houses_taken_or_not.main.body.getD i (.Pass ⟨0, 0, 0, 0⟩)
/-! ### what stands at the top: a def that keeps a promise, built-ins that are still theirs -/
def Can (P : Program) (w : World) (K : PySem.W.Frag) (mg : Str → Option Value) (base : Heap) (x : Str) (ps : List Str) (k : Nat) (sp : Sp) : Prop :=
  ∃ f fd, FnOk P w K mg base CX0 k f fd ps sp ∧ mg x = some (.ref f) ∧ PySem.W.keepIn K (.ref f) = true ∧ Binds K fd ps []
def Has (K : PySem.W.Frag) (mg : Str → Option Value) (x : Str) (st : Stmt) : Prop := ∃ f fd, Fun K x x st f fd ∧ mg x = some (.ref f)
structure Blt (mg : Str → Option Value) : Prop where
  isi : mg "isinstance" = none
  int_ : mg "int" = none
  bool_ : mg "bool" = none
  tuple_ : mg "tuple" = none
  list_ : mg "list" = none
  len_ : mg "len" = none
  abs_ : mg "abs" = none
  sorted_ : mg "sorted" = none
  set_ : mg "set" = none
  range_ : mg "range" = none
  min_ : mg "min" = none
  str_ : mg "str" = none
  reversed_ : mg "reversed" = none
  repr_ : mg "repr" = none
theorem pe_can {X : Cx} {x : Str} {ps : List Str} {k : Nat} {sp : Sp} {e : Expr} {es : List Expr} {t : TA} {p pos : Pos} (C : Can X.prog X.w X.K X.mg X.base x ps k sp) (hr : Room k X.A) (hg : Gl X x)
    (ha : PA X (e :: es) t) (hdb : (x == ("__debug__" : Str)) = false := by decide) (he : starEach (e :: es) X.env = (false, eval e X.env) :: starEach es X.env := by rfl) (hpl : (backTo pos (starEach es X.env)).any (·.1) = false := by rfl) :
    PE X (.Call (.Name x p) (e :: es) [] pos) (tCall sp [] E0 t) := by
  obtain ⟨f, fd, F, gm, kp, b⟩ := C
  exact pe_call F hr hg gm kp b .nil pass0 ha hdb he hpl
/-! ### isinstance of data -/
def tn : PyData → String
  | .none => "NoneType"
  | .bool _ => "bool"
  | .int _ => "int"
  | .str _ => "str"
  | .list _ => "list"
  | .tuple _ => "tuple"
  | .dict _ => "dict"
theorem Dt.ty {K : PySem.W.Frag} {av : List Addr} {H : Hp} {v : V} {d : PyData} (x : Dt av H v d) : TyX K H v (.type (tn d)) := by
  cases x with
  | non => exact .base .non
  | bl b => exact .base (.bl b)
  | int i => exact .base (.int i)
  | str y => exact .base (.str y)
  | lst _ _ e _ => exact .base (.lst e)
  | tup _ e _ => exact .base (.tup e)
  | dct _ e => exact .base (.dK e)
def aInt : PyData → Bool
  | .int _ => true
  | .bool _ => true
  | _ => false
def aBool : PyData → Bool
  | .bool _ => true
  | _ => false
def aTup : PyData → Bool
  | .tuple _ => true
  | _ => false
theorem kit_int (d : PyData) : kitB (tn d) "int" = some (aInt d) := by
  cases d <;> first | exact (show kitB "NoneType" "int" = some false by decide +kernel) | exact (show kitB "bool" "int" = some true by decide +kernel) | exact (show kitB "int" "int" = some true by decide +kernel) | exact (show kitB "str" "int" = some false by decide +kernel) | exact (show kitB "list" "int" = some false by decide +kernel) | exact (show kitB "tuple" "int" = some false by decide +kernel) | exact (show kitB "dict" "int" = some false by decide +kernel)
theorem kit_bool (d : PyData) : kitB (tn d) "bool" = some (aBool d) := by
  cases d <;> first | exact (show kitB "NoneType" "bool" = some false by decide +kernel) | exact (show kitB "bool" "bool" = some true by decide +kernel) | exact (show kitB "int" "bool" = some false by decide +kernel) | exact (show kitB "str" "bool" = some false by decide +kernel) | exact (show kitB "list" "bool" = some false by decide +kernel) | exact (show kitB "tuple" "bool" = some false by decide +kernel) | exact (show kitB "dict" "bool" = some false by decide +kernel)
theorem kit_tup (d : PyData) : kitB (tn d) "tuple" = some (aTup d) := by
  cases d <;> first | exact (show kitB "NoneType" "tuple" = some false by decide +kernel) | exact (show kitB "bool" "tuple" = some false by decide +kernel) | exact (show kitB "int" "tuple" = some false by decide +kernel) | exact (show kitB "str" "tuple" = some false by decide +kernel) | exact (show kitB "list" "tuple" = some false by decide +kernel) | exact (show kitB "tuple" "tuple" = some true by decide +kernel) | exact (show kitB "dict" "tuple" = some false by decide +kernel)
def rIs (T : String) (f : PyData → Bool) : List V → Hp → VK → Prop := fun xs H Q => ∃ v d av, xs = [v, .ty T] ∧ Dt av H v d ∧ Q (.bl (f d)) H
theorem call_isD {X : Cx} {T : String} {f : PyData → Bool} (hf : ∀ d, kitB (tn d) T = some (f d)) : CallR X (.builtin "isinstance") (rIs T f) := by
  intro pins s σ H xs us Q I r h
  obtain ⟨v, d, av, e, hd, q⟩ := h
  exact call_isi pins s σ H xs us Q I r ⟨v, .ty T, .type (tn d), .type T, f d, e, .ty T, hd.ty, kit_ty (hf d), q⟩
/-! ### the program's own defs -/
section
variable {P : Program} {w : World} {K : PySem.W.Frag} {mg : Str → Option Value} {base : Heap}
abbrev sWhole : Stmt := topS 10
abbrev sWithin : Stmt := topS 11
abbrev sTupOf : Stmt := topS 13
def whole : PyData → Bool
  | .int _ => true
  | _ => false
def within (d : PyData) (lo hi : Int) : Bool := match d with
  | .int i => decide (lo ≤ i) && decide (i ≤ hi)
  | _ => false
def tupOf (d : PyData) (n : Int) : Bool := match d with
  | .tuple ds => decide ((ds.length : Int) = n)
  | _ => false
theorem scWhole : FnScope ["thing"] ["thing"] (defScope sWhole) := ⟨rfl, rfl, rfl, by decide +kernel, rfl, by decide +kernel, by decide +kernel⟩
theorem scWithin : FnScope ["thing", "low", "high"] ["thing", "low", "high"] (defScope sWithin) := ⟨rfl, rfl, rfl, by decide +kernel, rfl, by decide +kernel, by decide +kernel⟩
theorem scTupOf : FnScope ["thing", "many"] ["thing", "many"] (defScope sTupOf) := ⟨rfl, rfl, rfl, by decide +kernel, rfl, by decide +kernel, by decide +kernel⟩
def spWhole : Sp := fun vs H Q _ => ∃ (v : V) (d : PyData) (av : List Addr), vs = [v] ∧ Dt av H v d ∧ Q (.bl (whole d)) H
theorem ok_whole (h : Has K mg "is_whole" sWhole) (B : Blt mg) : Can P w K mg base "is_whole" ["thing"] 1 spWhole := by
  obtain ⟨f, fd, F, g⟩ := h
  refine ⟨f, fd, F.ok (k := 0) scWhole (fun vs H Q E h => ?_) (fun cdv A outer s H vs Q E hr h => ?_), g, F.kp, F.binds fun _ _ _ _ _ _ us hl => match us, hl with | [_], _ => rfl⟩
  · obtain ⟨v, d, av, rfl, _⟩ := h
    rfl
  · obtain ⟨v, d, av, rfl, hd, q⟩ := h
    refine ⟨_, pss_one (ps_ret (pe_and (pe_callB (call_isD kit_int) (by rfl) B.isi boot_isinstance (pa_cons (pv 0) (pa_cons (pe_bltn (v := .ty "int") (by rfl) B.int_ boot_int rfl) pa_nil)))
      (pe_one (pe_not (pe_callB (call_isD kit_bool) (by rfl) B.isi boot_isinstance (pa_cons (pv 0) (pa_cons (pe_bltn (v := .ty "bool") (by rfl) B.bool_ boot_bool rfl) pa_nil))))))), ?_⟩
    refine ⟨v, rfl, v, d, av, rfl, hd, _, rfl, ite2 (fun e => ?_) (fun e => ?_)⟩
    · refine ⟨v, rfl, v, d, av, rfl, hd, _, rfl, ?_⟩
      have z : (!aBool d) = whole d := by cases d <;> first | rfl | cases e
      rw [z]; exact q
    · have z : false = whole d := by cases d <;> first | rfl | exact absurd rfl e
      rw [z]; exact q
def spWithin : Sp := fun vs H Q _ => ∃ (v : V) (d : PyData) (av : List Addr) (lo hi : Int), vs = [v, .int lo, .int hi] ∧ Dt av H v d ∧ Q (.bl (within d lo hi)) H
theorem ok_within (h : Has K mg "is_within" sWithin) (C : Can P w K mg base "is_whole" ["thing"] 1 spWhole) : Can P w K mg base "is_within" ["thing", "low", "high"] 2 spWithin := by
  obtain ⟨f, fd, F, g⟩ := h
  refine ⟨f, fd, F.ok (k := 1) scWithin (fun vs H Q E h => ?_) (fun cdv A outer s H vs Q E hr h => ?_), g, F.kp, F.binds fun _ _ _ _ _ _ us hl => match us, hl with | [_, _, _], _ => rfl⟩
  · obtain ⟨v, d, av, lo, hi, rfl, _⟩ := h
    rfl
  · obtain ⟨v, d, av, lo, hi, rfl, hd, q⟩ := h
    refine ⟨_, pss_one (ps_ret (pe_and (pe_can C hr (by rfl) (pa_cons (pv 0) pa_nil)) (pe_one (pe_chain op_le op_le (pv 1) (pv 0) (pv 2))))), ?_⟩
    refine ⟨v, rfl, v, d, av, rfl, hd, _, rfl, ite2 (fun e => ?_) (fun e => ?_)⟩
    · cases hd <;> first | (cases e; done) | skip
      rename_i i
      refine ⟨.int lo, rfl, .int i, rfl, lo, i, rfl, rfl, _, rfl, ite2 (fun e1 => ?_) (fun e1 => ?_)⟩
      · refine ⟨.int hi, rfl, i, hi, rfl, rfl, ?_⟩
        have z : decide (i ≤ hi) = within (.int i) lo hi := by
          show _ = (decide (lo ≤ i) && decide (i ≤ hi))
          rw [e1, Bool.true_and]
        rw [← z] at q; exact q
      · have z : false = within (.int i) lo hi := by
          show _ = (decide (lo ≤ i) && decide (i ≤ hi))
          rw [show decide (lo ≤ i) = false from Bool.eq_false_iff.mpr e1, Bool.false_and]
        rw [z]; exact q
    · have z : false = within d lo hi := by cases d <;> first | rfl | exact absurd rfl e
      rw [z]; exact q
def spTupOf : Sp := fun vs H Q _ => ∃ (v : V) (d : PyData) (av : List Addr) (n : Int), vs = [v, .int n] ∧ Dt av H v d ∧ Q (.bl (tupOf d n)) H
theorem ok_tupOf (h : Has K mg "is_tuple_of" sTupOf) (B : Blt mg) : Can P w K mg base "is_tuple_of" ["thing", "many"] 1 spTupOf := by
  obtain ⟨f, fd, F, g⟩ := h
  refine ⟨f, fd, F.ok (k := 0) scTupOf (fun vs H Q E h => ?_) (fun cdv A outer s H vs Q E hr h => ?_), g, F.kp, F.binds fun _ _ _ _ _ _ us hl => match us, hl with | [_, _], _ => rfl⟩
  · obtain ⟨v, d, av, n, rfl, _⟩ := h
    rfl
  · obtain ⟨v, d, av, n, rfl, hd, q⟩ := h
    refine ⟨_, pss_one (ps_ret (pe_and (pe_callB (call_isD kit_tup) (by rfl) B.isi boot_isinstance (pa_cons (pv 0) (pa_cons (pe_bltn (v := .ty "tuple") (by rfl) B.tuple_ boot_tuple rfl) pa_nil)))
      (pe_one (pe_cmpR op_eq (pe_callB call_len_seq (by rfl) B.len_ PySem.boot_len (pa_cons (pv 0) pa_nil)) (pv 1) (nomark _))))), ?_⟩
    refine ⟨v, rfl, v, d, av, rfl, hd, _, rfl, ite2 (fun e => ?_) (fun e => ?_)⟩
    · cases hd <;> first | (cases e; done) | skip
      rename_i a xs ds na ea hs
      refine ⟨.ref a, rfl, a, xs, rfl, .inr (SqT.of ea), .int n, rfl, rfl, ?_⟩
      have z : decide (V.int (xs.length : Int) = V.int n) = tupOf (.tuple ds) n := by
        show _ = decide ((ds.length : Int) = n)
        rw [hs.len]
        exact decide_eq_decide.mpr ⟨fun y => V.int.inj y, fun y => by rw [y]⟩
      rw [z]; exact q
    · have z : false = tupOf d n := by cases d <;> first | rfl | exact absurd rfl e
      rw [z]; exact q
end
end Rw

namespace Rw
open PySem PySem.Spec PyProof.Rows L2
/-! ### places of a house, by data -/
def lenOf : PyData → Int
  | .tuple (_ :: _ :: .int l :: _) => l
  | _ => 0
def PipesOk (ps : List PyData) : Prop := ∀ p ∈ ps, ∃ a b l r, p = .tuple (a :: b :: .int l :: r)
def houseD (n : Int) (ps : List PyData) : PyData := .tuple [.int n, .tuple ps]
end Rw

namespace Rw
open PySem PySem.Spec PyProof.Rows L2
/-! ### the law's own reading of places -/
section
variable {P : Program} {w : World} {K : PySem.W.Frag} {mg : Str → Option Value} {base : Heap}
abbrev sFrom : Stmt := topS 38
theorem scFrom : FnScope ["_law_thing", "_law_low", "_law_high"] ["_law_thing", "_law_low", "_law_high"] (defScope sFrom) := ⟨rfl, rfl, rfl, by decide +kernel, rfl, by decide +kernel, by decide +kernel⟩
theorem ok_from (h : Has K mg "_law_is_from" sFrom) (B : Blt mg) : Can P w K mg base "_law_is_from" ["_law_thing", "_law_low", "_law_high"] 1 spWithin := by
  obtain ⟨f, fd, F, g⟩ := h
  refine ⟨f, fd, F.ok (k := 0) scFrom (fun vs H Q E h => ?_) (fun cdv A outer s H vs Q E hr h => ?_), g, F.kp, F.binds fun _ _ _ _ _ _ us hl => match us, hl with | [_, _, _], _ => rfl⟩
  · obtain ⟨v, d, av, lo, hi, rfl, _⟩ := h
    rfl
  · obtain ⟨v, d, av, lo, hi, rfl, hd, q⟩ := h
    refine ⟨_, pss_one (ps_ret (pe_and (pe_callB (call_isD kit_int) (by rfl) B.isi boot_isinstance (pa_cons (pv 0) (pa_cons (pe_bltn (v := .ty "int") (by rfl) B.int_ boot_int rfl) pa_nil)))
      (pe_and (pe_not (pe_callB (call_isD kit_bool) (by rfl) B.isi boot_isinstance (pa_cons (pv 0) (pa_cons (pe_bltn (v := .ty "bool") (by rfl) B.bool_ boot_bool rfl) pa_nil))))
      (pe_one (pe_chain op_le op_le (pv 1) (pv 0) (pv 2)))))), ?_⟩
    refine ⟨v, rfl, v, d, av, rfl, hd, _, rfl, ite2 (fun e => ?_) (fun e => ?_)⟩
    · refine ⟨v, rfl, v, d, av, rfl, hd, _, rfl, _, rfl, ite2 (fun e2 => ?_) (fun e2 => ?_)⟩
      · cases hd <;> first | (cases e; done) | (cases e2; done) | skip
        rename_i i
        refine ⟨.int lo, rfl, .int i, rfl, lo, i, rfl, rfl, _, rfl, ite2 (fun e1 => ?_) (fun e1 => ?_)⟩
        · refine ⟨.int hi, rfl, i, hi, rfl, rfl, ?_⟩
          have z : decide (i ≤ hi) = within (.int i) lo hi := by
            show _ = (decide (lo ≤ i) && decide (i ≤ hi))
            rw [e1, Bool.true_and]
          rw [← z] at q; exact q
        · have z : false = within (.int i) lo hi := by
            show _ = (decide (lo ≤ i) && decide (i ≤ hi))
            rw [show decide (lo ≤ i) = false from Bool.eq_false_iff.mpr e1, Bool.false_and]
          rw [← z] at q; exact q
      · have z : false = within d lo hi := by cases d <;> first | rfl | exact absurd rfl e2
        rw [← z] at q; exact q
    · have z : false = within d lo hi := by cases d <;> first | rfl | exact absurd rfl e
      rw [← z] at q; exact q
end
end Rw

namespace Rw
open PySem PySem.Spec PyProof.Rows L2
theorem Keep.upd {av : List Addr} {H H1 : Hp} {p : Addr} {o : HO} (n : H p = none) (k : Keep av H H1) : Keep av H (upd H1 p o) := fun b z e nb => by
  rw [upd_ne (ne_of_none e n)]; exact k b z e nb
theorem Keep.set {av : List Addr} {H H1 : Hp} {p : Addr} {o : HO} (n : p ∈ av) (k : Keep av H H1) : Keep av H (L2.upd H1 p o) := k.trans (Keep.put n)
theorem Keep.same {H H1 : Hp} (k : Keep [] H H1) : Same H H1 := fun b o e => k b o e List.not_mem_nil
theorem Keep.of {av : List Addr} {H H1 : Hp} (k : Keep [] H H1) : Keep av H H1 := k.mono fun _ m => nomatch m
theorem cut_to (xs : List V) (k : Nat) : cutV xs none (some (k : Int)) = xs.take k := by
  unfold cutV
  rw [HT.sIx_none, HT.sIx_nat, List.drop_zero, Nat.sub_zero]
  by_cases h : k ≤ xs.length
  · rw [Nat.min_eq_left h]
  · rw [Nat.min_eq_right (by omega), List.take_of_length_le (Nat.le_refl _), List.take_of_length_le (by omega)]
theorem cut_from (xs : List V) (k : Nat) : cutV xs (some (k : Int)) none = xs.drop k := by
  unfold cutV
  rw [HT.sIx_none, HT.sIx_nat]
  by_cases h : k ≤ xs.length
  · rw [Nat.min_eq_left h, List.take_of_length_le (by rw [List.length_drop]; exact Nat.le_refl _)]
  · rw [Nat.min_eq_right (by omega), List.drop_of_length_le (Nat.le_refl _), List.drop_of_length_le (show xs.length ≤ k by omega), List.take_nil]
/-! ### the deck: its cells, its rests, its count (at most b) -/
structure Deck (H : Hp) (D C R : Addr) (b : Int) : Prop where
  ex : ∃ (ns rs : List Int) (c : Int), H D = some (.lst [.ref C, .ref R, .int c]) ∧ H C = some (.lst (ns.map V.int)) ∧ H R = some (.lst (rs.map V.int)) ∧
    rs.length = ns.length ∧ 0 < ns.length ∧ ns.length ≤ 100 ∧ (∀ n ∈ ns, 0 ≤ n) ∧ (∀ r ∈ rs, 0 ≤ r) ∧ 0 ≤ c ∧ c ≤ b
  cr : C ≠ R
  dc : D ≠ C
  dr : D ≠ R
theorem Deck.mono {H : Hp} {D C R : Addr} {b b' : Int} (x : Deck H D C R b) (h : b ≤ b') : Deck H D C R b' := by
  obtain ⟨⟨ns, rs, c, e1, e2, e3, e4, e5, e6, e7, e8, e9, e10⟩, n1, n2, n3⟩ := x
  exact ⟨⟨ns, rs, c, e1, e2, e3, e4, e5, e6, e7, e8, e9, by omega⟩, n1, n2, n3⟩
theorem Deck.keep {H H' : Hp} {D C R : Addr} {b : Int} (x : Deck H D C R b) (k : Keep [] H H') : Deck H' D C R b := by
  obtain ⟨⟨ns, rs, c, e1, e2, e3, r⟩, n1, n2, n3⟩ := x
  exact ⟨⟨ns, rs, c, k _ _ e1 List.not_mem_nil, k _ _ e2 List.not_mem_nil, k _ _ e3 List.not_mem_nil, r⟩, n1, n2, n3⟩
/-! a store elsewhere leaves the deck -/
theorem Deck.other {H : Hp} {D C R p : Addr} {b : Int} {o : HO} (x : Deck H D C R b) (h1 : p ≠ D) (h2 : p ≠ C) (h3 : p ≠ R) : Deck (upd H p o) D C R b := by
  obtain ⟨⟨ns, rs, c, e1, e2, e3, r⟩, n1, n2, n3⟩ := x
  exact ⟨⟨ns, rs, c, by rw [upd_ne h1.symm]; exact e1, by rw [upd_ne h2.symm]; exact e2, by rw [upd_ne h3.symm]; exact e3, r⟩, n1, n2, n3⟩
theorem Deck.ne {H : Hp} {D C R p : Addr} {b : Int} (x : Deck H D C R b) (n : H p = none) : p ≠ D ∧ p ≠ C ∧ p ≠ R := by
  obtain ⟨⟨ns, rs, c, e1, e2, e3, r⟩, _⟩ := x
  exact ⟨(ne_of_none e1 n).symm, (ne_of_none e2 n).symm, (ne_of_none e3 n).symm⟩
theorem Deck.new {H : Hp} {D C R p : Addr} {b : Int} {o : HO} (x : Deck H D C R b) (n : H p = none) : Deck (upd H p o) D C R b :=
  x.other (x.ne n).1 (x.ne n).2.1 (x.ne n).2.2
section
variable {P : Program} {w : World} {K : PySem.W.Frag} {mg : Str → Option Value} {base : Heap}
abbrev sDeck : Stmt := topS 24
theorem scDeck : FnScope ["_law_script", "_law_cells", "_law_cell"] ["_law_script"] (defScope sDeck) := ⟨rfl, rfl, rfl, by decide +kernel, rfl, by decide +kernel, by decide +kernel⟩
def spDeck (K : PySem.W.Frag) : Sp := fun vs H Q _ => ∃ (a : Addr) (ns : List Int), vs = [.ref a] ∧ SqL K H a (ns.map V.int) ∧ ns.length ≤ 63 ∧
  ∀ H' D C R, Keep [] H H' → H D = none → H C = none → H R = none → Deck H' D C R 0 → Q (.ref D) H'
theorem abs_nn (i : Int) : 0 ≤ (if i < 0 then -i else i) := by split <;> omega
theorem ok_deck (h : Has K mg "_law_deck" sDeck) (B : Blt mg) : Can P w K mg base "_law_deck" ["_law_script"] 1 (spDeck K) := by
  obtain ⟨f, fd, F, g⟩ := h
  refine ⟨f, fd, F.ok (k := 0) scDeck (fun vs H Q E h => ?_) (fun cdv A outer s H vs Q E hr h => ?_), g, F.kp, F.binds fun _ _ _ _ _ _ us hl => match us, hl with | [_], _ => rfl⟩
  · obtain ⟨a, ns, rfl, _⟩ := h
    rfl
  · obtain ⟨a, ns, rfl, hS, hlen, q⟩ := h
    refine ⟨_, pss_cons (ps_set (i := 1) scDeck.nd rfl (.inl rfl) (pe_op op_cat
        (pe_lc (own := [("_law_cell", 2)]) (g := gName 2) (tt := tYes) rfl scDeck.nd (pi_list (pe_slice sl_list (pv 0) po_none (po_some pe_int))) (blkOk_by (N := ["_law_script", "_law_cells", "_law_cell"]) (sc := defScope sDeck) (by decide +kernel))
          (fun _ _ _ _ _ => pg_name (i := 2) scDeck.nd rfl (Or.inl rfl)) (fun _ _ _ _ _ => pts_nil) (fun _ _ _ _ _ => pe_callB call_abs (by rfl) B.abs_ boot_abs (pa_cons (pv 2) pa_nil)))
        (pe_op op_rep (pe_lst (pa_cons pe_int pa_nil)) (pe_callTy call_int1 (by rfl) B.int_ boot_int (pa_cons (pe_cmpR op_eq (pe_callB call_len_seq (by rfl) B.len_ PySem.boot_len (pa_cons (pv 0) pa_nil)) pe_int (nomark _)) pa_nil)))))
      (pss_one (ps_ret (pe_lst (pa_cons (pv 1) (pa_cons
        (pe_lc (own := [("_law_cell", 2)]) (g := gName 2) (tt := tYes) rfl scDeck.nd (pi_list (pv 1)) (blkOk_by (N := ["_law_script", "_law_cells", "_law_cell"]) (sc := defScope sDeck) (by decide +kernel))
          (fun _ _ _ _ _ => pg_name (i := 2) scDeck.nd rfl (Or.inl rfl)) (fun _ _ _ _ _ => pts_nil) (fun _ _ _ _ _ => pe_op op_mul (pv 2) (pe_callTy call_int1 (by rfl) B.int_ boot_int (pa_cons (pe_cmpR op_ge (pv 2) (pe_op op_pow pe_int pe_int) (nomark _)) pa_nil))))
        (pa_cons pe_int pa_nil)))))), ?_⟩
    refine ⟨.ref a, rfl, 62, rfl, a, _, rfl, hS, fun c nc => ?_⟩
    rw [show cutV (ns.map V.int) none (some 62) = (ns.take 62).map V.int by rw [show (62 : Int) = ((62 : Nat) : Int) from rfl, cut_to, List.map_take]]
    refine ⟨c, rfl, ⟨_, SqL.of upd_same⟩, fun D nD => ?_⟩
    have k1 : Keep [] H (upd H c (.lst ((ns.take 62).map V.int))) := Keep.new nc
    refine lc_list (K := K) (a := c) (xs := (ns.take 62).map V.int)
      (fun i G => Keep [] (upd H c (.lst ((ns.take 62).map V.int))) G ∧ ∃ cs : List Int, cs.length = i ∧ (∀ n ∈ cs, 0 ≤ n) ∧ G D = some (.lst (cs.map V.int)))
      ⟨Keep.new nD, [], rfl, fun _ m => absurd m List.not_mem_nil, upd_same⟩ (fun i G _ p => p.1.same.seq (SqL.of upd_same)) (fun i x G hx p => ?_) (fun G p => ?_)
    · obtain ⟨k2, cs, l2, c2, e2⟩ := p
      rw [List.getElem?_map] at hx
      obtain ⟨n, hn, rfl⟩ := Option.map_eq_some_iff.mp hx
      have hi : i < 62 := by
        have := (List.getElem?_eq_some_iff.mp hn).1
        rw [List.length_take] at this; omega
      refine ⟨rfl, .int n, rfl, n, rfl, cs.map V.int, e2, by rw [List.length_map, l2]; exact small1000 (by omega), k2.upd nD, cs ++ [if n < 0 then -n else n], by rw [List.length_append, l2]; rfl, fun z hz => ?_, by rw [upd_same, List.map_append]; rfl⟩
      rcases List.mem_append.mp hz with hz | hz
      · exact c2 z hz
      · rw [List.mem_singleton.mp hz]; exact abs_nn n
    · obtain ⟨k2, cs, l2, c2, e2⟩ := p
      have l3 : cs.length = min 62 ns.length := by rw [l2, List.length_map, List.length_take]
      have k3 : Keep [] H G := k1.trans k2
      refine ⟨by decide, fun z nz => ?_⟩
      have e3 : (upd G z (.lst [.int 0])) D = some (.lst (cs.map V.int)) := by rw [upd_ne (ne_of_none e2 nz)]; exact e2
      have k4 : Keep [] H (upd G z (.lst [.int 0])) := k3.trans (Keep.new nz)
      refine ⟨.ref a, rfl, a, _, rfl, .inl (k4.same.seq hS), rfl, .inr ⟨_, rfl, z, _, _, rfl, rfl, upd_same, ?_, ?_, ?_, fun y ny => ?_⟩⟩
      · split <;> decide
      · split <;> decide
      · split <;> decide
      · have k5 := k4.trans (Keep.new (av := []) (o := .lst (List.replicate (Int.toNat (if decide (V.int ((ns.map V.int).length : Int) = V.int 0) = true then 1 else 0)) [V.int 0]).flatten) ny)
        obtain ⟨zs, ez, lz, pz⟩ : ∃ zs : List Int, (List.replicate (Int.toNat (if decide (V.int ((ns.map V.int).length : Int) = V.int 0) = true then 1 else 0)) [V.int 0]).flatten = zs.map V.int ∧ zs.length ≤ 1 ∧ (∀ n ∈ zs, 0 ≤ n) ∧ (ns.length = 0 → zs.length = 1) := by
          by_cases h0 : ns.length = 0
          · refine ⟨[0], ?_, by decide, fun n hn => by rw [List.mem_singleton.mp hn]; decide, fun _ => rfl⟩
            rw [List.length_map, h0]; rfl
          · refine ⟨[], ?_, by decide, (fun n hn => nomatch hn), fun e => absurd e h0⟩
            rw [if_neg]
            · rfl
            · rw [decide_eq_true_eq, List.length_map]
              intro e
              have := V.int.inj e
              omega
        rw [ez] at k5 ⊢
        refine ⟨D, y, _, _, rfl, rfl, by rw [upd_ne (ne_of_none e3 ny)]; exact e3, upd_same, ?_, fun C nC => ?_⟩
        · rw [List.length_map, List.length_map]
          exact Nat.le_of_lt (small1000 (by omega))
        · rw [← List.map_append]
          have k6 := k5.trans (Keep.new (av := []) (o := .lst ((cs ++ zs).map V.int)) nC)
          have hall : ∀ n ∈ cs ++ zs, 0 ≤ n := fun n hn => (List.mem_append.mp hn).elim (c2 n) (pz.1 n)
          have hl1 : (cs ++ zs).length ≤ 100 := by rw [List.length_append]; omega
          have hl0 : 0 < (cs ++ zs).length := by
            rw [List.length_append]
            by_cases h0 : ns.length = 0
            · have := pz.2 h0; omega
            · omega
          generalize cs ++ zs = ms at *
          generalize hG1 : upd _ C _ = G1 at k6 ⊢
          have eC : G1 C = some (.lst (ms.map V.int)) := by rw [← hG1]; exact upd_same
          have nHC : H C = none := by
            cases hq : H C with
            | none => rfl
            | some o =>
              have := k5.same C o hq
              rw [nC] at this; cases this
          refine ⟨.ref C, rfl, .ref C, rfl, C, rfl, ⟨_, SqL.of eC⟩, fun R nR => ?_⟩
          refine lc_list (K := K) (a := C) (xs := ms.map V.int)
            (fun i J => Keep [] G1 J ∧ ∃ rs : List Int, rs.length = i ∧ (∀ n ∈ rs, 0 ≤ n) ∧ J R = some (.lst (rs.map V.int)))
            ⟨Keep.new nR, [], rfl, fun _ m => absurd m List.not_mem_nil, upd_same⟩ (fun i J _ p => p.1.same.seq (SqL.of eC)) (fun i x J hx p => ?_) (fun J p => ?_)
          · obtain ⟨k7, rs, l7, c7, e7⟩ := p
            rw [List.getElem?_map] at hx
            obtain ⟨n, hn, rfl⟩ := Option.map_eq_some_iff.mp hx
            have hi : i < ms.length := (List.getElem?_eq_some_iff.mp hn).1
            have h0n : 0 ≤ n := hall n (List.mem_of_getElem? hn)
            refine ⟨rfl, .int n, rfl, .int n, rfl, 10, 18, rfl, rfl, ⟨by decide, by decide, by decide⟩, n, _, rfl, rfl, .inr ⟨_, rfl, n, _, rfl, rfl, .inr ?_, rs.map V.int, e7, by rw [List.length_map, l7]; exact small1000 (by omega), k7.upd nR, rs ++ [n * (if decide (n ≥ 10 ^ 18) = true then 1 else 0)], by rw [List.length_append, l7]; rfl, fun z hz => ?_, by rw [upd_same, List.map_append]; rfl⟩⟩
            · constructor <;> (split <;> decide)
            · rcases List.mem_append.mp hz with hz | hz
              · exact c7 z hz
              · rw [List.mem_singleton.mp hz]
                split <;> omega
          · obtain ⟨k7, rs, l7, c7, e7⟩ := p
            have eC2 : J C = some (.lst (ms.map V.int)) := k7.same _ _ eC
            refine ⟨show 3 ≤ sizeLine by decide, fun D2 nD2 => ?_⟩
            have k8 := k6.trans (k7.trans (Keep.new (av := []) (o := .lst [.ref C, .ref R, .int 0]) nD2))
            have fr : ∀ {p : Addr} {J' : Hp}, J' p = none → Keep [] H J' → H p = none := fun {p J'} n k => by
              cases hq : H p with
              | none => rfl
              | some o => rw [k.same p o hq] at n; cases n
            refine q _ D2 C R k8 (fr nD2 (k6.trans k7)) nHC (fr nR k6) ⟨⟨ms, rs, 0, upd_same, ?_, ?_, ?_, hl0, hl1, hall, c7, by decide, by decide⟩, ?_, ?_, ?_⟩
            · rw [upd_ne (ne_of_none eC2 nD2)]; exact eC2
            · rw [upd_ne (ne_of_none e7 nD2)]; exact e7
            · rw [l7, List.length_map]
            · exact ne_of_none eC nR
            · exact (ne_of_none eC2 nD2).symm
            · exact (ne_of_none e7 nD2).symm
end
end Rw

namespace Rw
open PySem PySem.Spec PyProof.Rows L2
theorem ixN_at {n : Nat} {i : Int} (h0 : 0 ≤ i) (h : i < n) : ixN n i = some i.toNat := by
  unfold ixN
  rw [if_pos h0]
  first | rw [if_pos (show i.toNat < n by omega)] | (rw [if_pos (show i < n by omega)])
theorem set_map (rs : List Int) (j : Nat) (x : Int) : (rs.map V.int).set j (.int x) = (rs.set j x).map V.int := by rw [List.map_set]
section
variable {P : Program} {w : World} {K : PySem.W.Frag} {mg : Str → Option Value} {base : Heap}
abbrev sNext : Stmt := topS 25
theorem scNext : FnScope ["_law_deck_here", "_law_many", "_law_cells", "_law_rests", "_law_count", "_law_spot", "_law_digit", "_law_mixed"] ["_law_deck_here", "_law_many"] (defScope sNext) := ⟨rfl, rfl, rfl, by decide +kernel, rfl, by decide +kernel, by decide +kernel⟩
def spNext : Sp := fun vs H Q _ => ∃ (D C R : Addr) (b m : Int), vs = [.ref D, .int m] ∧ 1 ≤ m ∧ m ≤ 10000000000000 ∧ Deck H D C R b ∧ b ≤ 1000000000 ∧
  ∀ H' k, Keep [D, R] H H' → Deck H' D C R (b + 1) → 0 ≤ k → k < m → Q (.int k) H'
theorem ok_next (h : Has K mg "_law_next" sNext) (B : Blt mg) : Can P w K mg base "_law_next" ["_law_deck_here", "_law_many"] 1 spNext := by
  obtain ⟨f, fd, F, g⟩ := h
  refine ⟨f, fd, F.ok (k := 0) scNext (fun vs H Q E h => ?_) (fun cdv A outer s H vs Q E hr h => ?_), g, F.kp, F.binds fun _ _ _ _ _ _ us hl => match us, hl with | [_, _], _ => rfl⟩
  · obtain ⟨D, C, R, b, m, rfl, _⟩ := h
    rfl
  · obtain ⟨D, C, R, b, m, rfl, m1, m2, dk, hb, q⟩ := h
    obtain ⟨⟨ns, rs, c, eD, eC, eR, lr, l0, l1, pn, pr, c0, cb⟩, nCR, nDC, nDR⟩ := dk
    refine ⟨_, pss_cons (ps_asg (pv 0) (pg_unl rfl (pgs_cons (pg_name (i := 2) scNext.nd rfl (.inl rfl)) (pgs_cons (pg_name (i := 3) scNext.nd rfl (.inl rfl)) (pgs_cons (pg_name (i := 4) scNext.nd rfl (.inl rfl)) pgs_nil)))))
      (pss_cons (ps_asg (pe_op op_add (pv 4) pe_int) (pg_sub (pv 0) pe_int set_list))
      (pss_cons (ps_set (i := 5) scNext.nd rfl (.inl rfl) (pe_op op_mod (pv 4) (pe_callB call_len_seq (by rfl) B.len_ PySem.boot_len (pa_cons (pv 2) pa_nil))))
      (pss_cons (ps_if (pt_cmpR op_gt (pe_ix ix_list (pv 3) (pv 5) (fun _ _ => rfl)) pe_int (nomark _))
        (pss_cons (ps_set (i := 6) scNext.nd rfl (.inl rfl) (pe_op op_mod (pe_ix ix_list (pv 3) (pv 5) (fun _ _ => rfl)) (pv 1)))
        (pss_cons (ps_asg (pe_op op_fdivW (pe_ix ix_list (pv 3) (pv 5) (fun _ _ => rfl)) (pv 1)) (pg_sub (pv 3) (pv 5) set_list))
        (pss_one (ps_ret (pv 6))))) pss_nil)
      (pss_cons (ps_set (i := 7) scNext.nd rfl (.inl rfl) (pe_op op_mul (pe_op op_add (pe_op op_add (pe_ix ix_list (pv 2) (pv 5) (fun _ _ => rfl)) (pe_op op_mul pe_int (pv 4))) pe_int) (pe_op op_add pe_int (pe_op op_mul pe_int (pv 4)))))
      (pss_cons (ps_set (i := 7) scNext.nd rfl (.inl rfl) (pe_op op_mod (pe_op op_add (pv 7) (pe_op op_mul pe_int (pv 4))) pe_int))
      (pss_cons (ps_set (i := 7) scNext.nd rfl (.inl rfl) (pe_op op_mod (pe_op op_add (pe_op op_mul (pv 7) (pv 7)) pe_int) pe_int))
      (pss_cons (ps_set (i := 7) scNext.nd rfl (.inl rfl) (pe_op op_mod (pe_op op_mul (pv 7) (pv 7)) pe_int))
      (pss_one (ps_ret (pe_op op_mod (pe_op op_fdiv (pv 7) pe_int) (pv 1))))))))))), ?_⟩
    refine ⟨.ref D, rfl, D, _, rfl, SqL.of eD, rfl, .ref C, _, rfl, .ref R, _, rfl, .int c, [], rfl, rfl, ?_⟩
    refine ⟨.int c, rfl, c, 1, rfl, rfl, .ref D, rfl, D, _, 2, 2, rfl, rfl, eD, rfl, ?_⟩
    have eD1 : upd H D (.lst [.ref C, .ref R, .int (c + 1)]) D = some (.lst [.ref C, .ref R, .int (c + 1)]) := upd_same
    have eC1 : upd H D (.lst [.ref C, .ref R, .int (c + 1)]) C = some (.lst (ns.map V.int)) := by rw [upd_ne nDC.symm]; exact eC
    have eR1 : upd H D (.lst [.ref C, .ref R, .int (c + 1)]) R = some (.lst (rs.map V.int)) := by rw [upd_ne nDR.symm]; exact eR
    have k1 : Keep [D, R] H (upd H D (.lst [.ref C, .ref R, .int (c + 1)])) := Keep.put (by simp)
    show (_ : Prop)
    generalize hG : upd H D (.lst ([V.ref C, V.ref R, V.int c].set 2 (V.int (c + 1)))) = G
    have hG' : upd H D (.lst [.ref C, .ref R, .int (c + 1)]) = G := hG
    rw [hG'] at eD1 eC1 eR1 k1
    have lnn : ((ns.map V.int).length : Int) = (ns.length : Int) := by rw [List.length_map]
    have sp0 : 0 ≤ c % (ns.length : Int) := Int.emod_nonneg _ (by omega)
    have sp1 : c % (ns.length : Int) < (ns.length : Int) := Int.emod_lt_of_pos _ (by omega)
    refine ⟨.int c, rfl, .ref C, rfl, C, _, rfl, .inl (SqL.of eC1), c, _, rfl, rfl, by rw [lnn]; omega, ?_⟩
    rw [lnn]
    dsimp only
    generalize hsp : c % (ns.length : Int) = sp at sp0 sp1 ⊢
    have atR : atI (rs.map V.int) sp = some (.int (rs.getD sp.toNat 0)) := by
      have e : ((sp.toNat : Nat) : Int) = sp := by omega
      rw [← e]
      refine atI_nat ?_
      rw [List.getElem?_map, List.getD_eq_getElem?_getD, List.getElem?_eq_getElem (show ((sp.toNat : Nat) : Int).toNat < rs.length by omega)]
      simp only [Int.toNat_natCast]
      rw [List.getElem?_eq_getElem (show sp.toNat < rs.length by omega)]; rfl
    have atC : atI (ns.map V.int) sp = some (.int (ns.getD sp.toNat 0)) := by
      have e : ((sp.toNat : Nat) : Int) = sp := by omega
      rw [← e]
      refine atI_nat ?_
      rw [List.getElem?_map, List.getD_eq_getElem?_getD]
      simp only [Int.toNat_natCast]
      rw [List.getElem?_eq_getElem (show sp.toNat < ns.length by omega)]; rfl
    generalize hr0 : rs.getD sp.toNat 0 = r at atR
    generalize hn0 : ns.getD sp.toNat 0 = n at atC
    refine ⟨.ref R, rfl, .int sp, rfl, R, _, sp, .int r, rfl, rfl, SqL.of eR1, atR, r, 0, rfl, rfl, _, rfl, ite2 (fun e => ?_) (fun e => ?_)⟩
    · have r0 : 0 < r := of_decide_eq_true e
      refine ⟨.ref R, rfl, .int sp, rfl, R, _, sp, .int r, rfl, rfl, SqL.of eR1, atR, .int m, rfl, r, m, rfl, rfl, (show (0 : Int) < m by omega), ?_⟩
      refine ⟨.ref R, rfl, .int sp, rfl, R, _, sp, .int r, rfl, rfl, SqL.of eR1, atR, .int m, rfl, r, m, rfl, rfl, wide_div (b := 64) (by omega) (by omega) (by decide) (by decide), ?_⟩
      refine ⟨.ref R, rfl, .int sp, rfl, R, _, sp, sp.toNat, rfl, rfl, eR1, ixN_at sp0 (by rw [List.length_map]; omega), ?_⟩
      rw [set_map]
      refine ⟨.int (r % m), rfl, q _ _ (k1.trans (Keep.put (by simp))) ⟨⟨ns, rs.set sp.toNat (r / m), c + 1, ?_, ?_, upd_same, ?_, l0, l1, pn, ?_, by omega, by omega⟩, nCR, nDC, nDR⟩ (Int.emod_nonneg _ (by omega)) (Int.emod_lt_of_pos _ (by omega))⟩
      · rw [upd_ne nDR]; exact eD1
      · rw [upd_ne nCR]; exact eC1
      · rw [List.length_set]; exact lr
      · intro z hz
        rcases List.mem_or_eq_of_mem_set hz with hz | hz
        · exact pr z hz
        · rw [hz]; exact Int.ediv_nonneg (by omega) (by omega)
    · have fin : ∀ x : Int, 0 ≤ x → Q (.int (x / 512 % m)) G := fun x hx =>
        q _ _ k1 ⟨⟨ns, rs, c + 1, eD1, eC1, eR1, lr, l0, l1, pn, pr, by omega, by omega⟩, nCR, nDC, nDR⟩ (Int.emod_nonneg _ (by omega)) (Int.emod_lt_of_pos _ (by omega))
      refine ⟨.ref C, rfl, .int sp, rfl, C, _, sp, .int n, rfl, rfl, SqL.of eC1, atC, .int c, rfl, 1009, c, rfl, rfl, .inl ⟨by decide, by decide⟩, n, _, rfl, rfl, _, 3, rfl, rfl, .int c, rfl, 2, c, rfl, rfl, .inl ⟨by decide, by decide⟩, 50021, _, rfl, rfl, _, _, rfl, rfl, .inr ⟨by omega, by omega⟩, ?_⟩
      dsimp only
      generalize (n + 1009 * c + 3) * (50021 + 2 * c) = x1
      refine ⟨.int x1, rfl, .int c, rfl, 60013, c, rfl, rfl, .inl ⟨by decide, by decide⟩, x1, _, rfl, rfl, _, _, rfl, rfl, (show (0 : Int) < 2305843009213693951 by decide), ?_⟩
      have y0 : 0 ≤ (x1 + 60013 * c) % 2305843009213693951 := Int.emod_nonneg _ (by decide)
      have y1 : (x1 + 60013 * c) % 2305843009213693951 < 2305843009213693951 := Int.emod_lt_of_pos _ (by decide)
      dsimp only
      generalize (x1 + 60013 * c) % 2305843009213693951 = x2 at y0 y1 ⊢
      refine ⟨.int x2, rfl, .int x2, rfl, x2, x2, rfl, rfl, .inl ⟨by omega, by omega⟩, _, 79633, rfl, rfl, _, _, rfl, rfl, (show (0 : Int) < 2305843009213693921 by decide), ?_⟩
      have z0 : 0 ≤ (x2 * x2 + 79633) % 2305843009213693921 := Int.emod_nonneg _ (by decide)
      have z1 : (x2 * x2 + 79633) % 2305843009213693921 < 2305843009213693921 := Int.emod_lt_of_pos _ (by decide)
      dsimp only
      generalize (x2 * x2 + 79633) % 2305843009213693921 = x3 at z0 z1 ⊢
      refine ⟨.int x3, rfl, .int x3, rfl, x3, x3, rfl, rfl, .inl ⟨by omega, by omega⟩, _, _, rfl, rfl, (show (0 : Int) < 2305843009213693951 by decide), ?_⟩
      have w0 : 0 ≤ (x3 * x3) % 2305843009213693951 := Int.emod_nonneg _ (by decide)
      dsimp only
      generalize (x3 * x3) % 2305843009213693951 = x4 at w0 ⊢
      exact ⟨.int x4, rfl, x4, 512, rfl, rfl, ⟨by decide, by decide⟩, .int m, rfl, _, m, rfl, rfl, (show (0 : Int) < m by omega), fin x4 w0⟩
end
end Rw

namespace Rw
open PySem PySem.Spec PyProof.Rows L2
theorem atI_of {α : Type} {xs : List α} {i : Int} {v : α} (h0 : 0 ≤ i) (h : xs[i.toNat]? = some v) : atI xs i = some v := by
  have hl := (List.getElem?_eq_some_iff.mp h).1
  unfold atI
  rw [ixN_at h0 (by omega)]
  exact h
theorem Deck.at {H : Hp} {D C R : Addr} {b : Int} (x : Deck H D C R b) : (∃ o, H D = some o) ∧ (∃ o, H C = some o) ∧ ∃ o, H R = some o := by
  obtain ⟨⟨ns, rs, c, e1, e2, e3, r⟩, _⟩ := x
  exact ⟨⟨_, e1⟩, ⟨_, e2⟩, ⟨_, e3⟩⟩
theorem Keep.free {H H' : Hp} {D C R p : Addr} {b : Int} (k : Keep [D, R] H H') (x : Deck H' D C R b) (n : H' p = none) : H p = none := by
  cases hq : H p with
  | none => rfl
  | some o =>
    have nd : p ∉ [D, R] := fun m => by
      obtain ⟨n1, n2, n3⟩ := x.ne n
      rcases List.mem_cons.mp m with m | m
      · exact n1 m
      · exact n3 (List.mem_singleton.mp m)
    rw [k p o hq nd] at n; cases n
theorem notDR {D R p : Addr} (h1 : p ≠ D) (h2 : p ≠ R) : p ∉ [D, R] := fun m => by
  rcases List.mem_cons.mp m with m | m
  · exact h1 m
  · exact h2 (List.mem_singleton.mp m)
section
variable {P : Program} {w : World} {K : PySem.W.Frag} {mg : Str → Option Value} {base : Heap}
abbrev sOne : Stmt := topS 26
abbrev sEdge : Stmt := topS 27
abbrev sSpots : Stmt := topS 29
abbrev sLength : Stmt := topS 30
theorem scOne : FnScope ["_law_deck_here", "_law_some"] ["_law_deck_here", "_law_some"] (defScope sOne) := ⟨rfl, rfl, rfl, by decide +kernel, rfl, by decide +kernel, by decide +kernel⟩
theorem scEdge : FnScope ["_law_deck_here", "_law_many"] ["_law_deck_here", "_law_many"] (defScope sEdge) := ⟨rfl, rfl, rfl, by decide +kernel, rfl, by decide +kernel, by decide +kernel⟩
theorem scSpots : FnScope ["_law_deck_here", "_law_low", "_law_high", "_law_many", "_law_k"] ["_law_deck_here", "_law_low", "_law_high", "_law_many"] (defScope sSpots) := ⟨rfl, rfl, rfl, by decide +kernel, rfl, by decide +kernel, by decide +kernel⟩
theorem scLength : FnScope ["_law_deck_here", "_law_far", "_law_some"] ["_law_deck_here", "_law_far"] (defScope sLength) := ⟨rfl, rfl, rfl, by decide +kernel, rfl, by decide +kernel, by decide +kernel⟩
def spOne : Sp := fun vs H Q _ => ∃ (D C R l : Addr) (b : Int) (xs : List V), vs = [.ref D, .ref l] ∧ H l = some (.lst xs) ∧ 1 ≤ xs.length ∧ xs.length ≤ 1000 ∧ l ≠ D ∧ l ≠ R ∧ Deck H D C R b ∧ b ≤ 1000000000 ∧
  ∀ H' (i : Nat) x, Keep [D, R] H H' → Deck H' D C R (b + 1) → xs[i]? = some x → Q x H'
theorem ok_one (h : Has K mg "_law_one" sOne) (B : Blt mg) (CN : Can P w K mg base "_law_next" ["_law_deck_here", "_law_many"] 1 spNext) : Can P w K mg base "_law_one" ["_law_deck_here", "_law_some"] 2 spOne := by
  obtain ⟨f, fd, F, g⟩ := h
  refine ⟨f, fd, F.ok (k := 1) scOne (fun vs H Q E h => ?_) (fun cdv A outer s H vs Q E hr h => ?_), g, F.kp, F.binds fun _ _ _ _ _ _ us hl => match us, hl with | [_, _], _ => rfl⟩
  · obtain ⟨D, C, R, l, b, xs, rfl, _⟩ := h
    rfl
  · obtain ⟨D, C, R, l, b, xs, rfl, el, l1, l2, nD, nR, dk, hb, q⟩ := h
    refine ⟨_, pss_one (ps_ret (pe_ix ix_list (pv 1) (pe_can CN hr (by rfl) (pa_cons (pv 0) (pa_cons (pe_callB call_len_seq (by rfl) B.len_ PySem.boot_len (pa_cons (pv 1) pa_nil)) pa_nil))) (fun _ _ => rfl))), ?_⟩
    refine ⟨.ref l, rfl, .ref D, rfl, .ref l, rfl, l, xs, rfl, .inl (SqL.of el), D, C, R, b, _, rfl, by omega, by omega, dk, hb, fun H' k kp dk' k0 k1 => ?_⟩
    have g1 : xs[k.toNat]? = some (xs[k.toNat]'(by omega)) := List.getElem?_eq_getElem (by omega)
    refine ⟨l, xs, k, _, rfl, rfl, SqL.of (kp l _ el (notDR nD nR)), atI_of k0 g1, q H' k.toNat _ kp dk' g1⟩
def spEdge : Sp := fun vs H Q _ => ∃ (D C R : Addr) (b m : Int), vs = [.ref D, .int m] ∧ 1 ≤ m ∧ m ≤ 10000000000000 ∧ Deck H D C R b ∧ b ≤ 900000000 ∧
  ∀ H' k, Keep [D, R] H H' → Deck H' D C R (b + 3) → 0 ≤ k → k < m → Q (.int k) H'
theorem ok_edge (h : Has K mg "_law_edge" sEdge) (B : Blt mg) (CN : Can P w K mg base "_law_next" ["_law_deck_here", "_law_many"] 1 spNext) (CO : Can P w K mg base "_law_one" ["_law_deck_here", "_law_some"] 2 spOne) :
    Can P w K mg base "_law_edge" ["_law_deck_here", "_law_many"] 3 spEdge := by
  obtain ⟨f, fd, F, g⟩ := h
  refine ⟨f, fd, F.ok (k := 2) scEdge (fun vs H Q E h => ?_) (fun cdv A outer s H vs Q E hr h => ?_), g, F.kp, F.binds fun _ _ _ _ _ _ us hl => match us, hl with | [_, _], _ => rfl⟩
  · obtain ⟨D, C, R, b, m, rfl, _⟩ := h
    rfl
  · obtain ⟨D, C, R, b, m, rfl, m1, m2, dk, hb, q⟩ := h
    refine ⟨_, pss_one (ps_ret (pe_can CO hr (by rfl) (pa_cons (pv 0) (pa_cons (pe_lst (pa_cons pe_int (pa_cons (pe_op op_sub (pv 1) pe_int) (pa_cons (pe_can CN (hr.mono (by decide)) (by rfl) (pa_cons (pv 0) (pa_cons (pv 1) pa_nil)))
      (pa_cons (pe_can CN (hr.mono (by decide)) (by rfl) (pa_cons (pv 0) (pa_cons (pe_callB (call_min2 rfl) (by rfl) B.min_ boot_min (pa_cons (pv 1) (pa_cons pe_int pa_nil))) pa_nil))) pa_nil))))) pa_nil)))), ?_⟩
    refine ⟨.ref D, rfl, .int m, rfl, m, 1, rfl, rfl, .ref D, rfl, .int m, rfl, D, C, R, b, m, rfl, m1, m2, dk, by omega, fun H1 k1 kp1 dk1 a1 a2 => ?_⟩
    refine ⟨.ref D, rfl, .int m, rfl, m, 4, rfl, D, C, R, b + 1, _, rfl, by split <;> omega, by split <;> omega, dk1, by omega, fun H2 k2 kp2 dk2 a3 a4 => ?_⟩
    refine ⟨show 4 ≤ sizeLine by decide, fun l nl => ?_⟩
    obtain ⟨n1, n2, n3⟩ := dk2.ne nl
    refine ⟨D, C, R, l, b + 1 + 1, _, rfl, upd_same, show 1 ≤ 4 by decide, show 4 ≤ 1000 by decide, n1, n3, dk2.new nl, by omega, fun H3 i x kp3 dk3 hx => ?_⟩
    have kp : Keep [D, R] H H3 := kp1.trans (kp2.trans ((Keep.new nl).trans kp3))
    have dk3' : Deck H3 D C R (b + 3) := dk3.mono (by omega)
    match i, hx with
    | 0, hx => cases hx; exact q H3 0 kp dk3' (by decide) (by omega)
    | 1, hx => cases hx; exact q H3 (m - 1) kp dk3' (by omega) (by omega)
    | 2, hx => cases hx; exact q H3 k1 kp dk3' a1 a2
    | 3, hx =>
      cases hx
      refine q H3 k2 kp dk3' a3 ?_
      revert a4; split <;> omega
    | i + 4, hx => exact nomatch hx
def spSpots : Sp := fun vs H Q _ => ∃ (D C R : Addr) (b lo hi m : Int), vs = [.ref D, .int lo, .int hi, .int m] ∧ hi - lo + 1 ≤ 10000000000000 ∧ 0 ≤ m ∧ m ≤ 10 ∧ Deck H D C R b ∧ b ≤ 800000000 ∧
  ∀ H' (p : Addr) (ns : List Int), Keep [D, R] H H' → Deck H' D C R (b + 3 * m) → H p = none → H' p = some (.lst (ns.map V.int)) → ns.Pairwise (· < ·) → (∀ n ∈ ns, lo ≤ n ∧ n ≤ hi) → (ns.length : Int) ≤ m → Q (.ref p) H'
theorem ok_spots (h : Has K mg "_law_spots" sSpots) (B : Blt mg) (CE : Can P w K mg base "_law_edge" ["_law_deck_here", "_law_many"] 3 spEdge) : Can P w K mg base "_law_spots" ["_law_deck_here", "_law_low", "_law_high", "_law_many"] 4 spSpots := by
  obtain ⟨f, fd, F, g⟩ := h
  refine ⟨f, fd, F.ok (k := 3) scSpots (fun vs H Q E h => ?_) (fun cdv A outer s H vs Q E hr h => ?_), g, F.kp, F.binds fun _ _ _ _ _ _ us hl => match us, hl with | [_, _, _, _], _ => rfl⟩
  · obtain ⟨D, C, R, b, lo, hi, m, rfl, _⟩ := h
    rfl
  · obtain ⟨D, C, R, b, lo, hi, m, rfl, hh, m0, m1, dk, hb, q⟩ := h
    refine ⟨_, pss_cons (ps_if (pt_cmpR op_lt (pv 2) (pv 1) (nomark _)) (pss_one (ps_ret (pe_lst pa_nil))) pss_nil)
      (pss_one (ps_ret (pe_callB (cr_sortedSet rfl) (by rfl) B.sorted_ boot_sorted (pa_cons (pe_callTy (cr_setL rfl) (by rfl) B.set_ boot_set (pa_cons
        (pe_lc (own := [("_law_k", 4)]) (g := gName 4) (tt := tYes) rfl scSpots.nd (pi_range1 (by rfl) B.range_ (pa_cons (pv 3) pa_nil)) (blkOk_by (N := ["_law_deck_here", "_law_low", "_law_high", "_law_many", "_law_k"]) (sc := defScope sSpots) (by decide +kernel))
          (fun _ _ _ _ _ => pg_name (i := 4) scSpots.nd rfl (Or.inl rfl)) (fun _ _ _ _ _ => pts_nil) (fun _ _ _ _ _ => pe_op op_add (pv 1) (pe_can CE hr (by rfl) (pa_cons (pv 0) (pa_cons (pe_op op_add (pe_op op_sub (pv 2) (pv 1)) pe_int) pa_nil))))) pa_nil)) pa_nil)))), ?_⟩
    refine ⟨.int hi, rfl, .int lo, rfl, hi, lo, rfl, rfl, _, rfl, ite2 (fun e => ?_) (fun e => ?_)⟩
    · refine ⟨show 0 ≤ sizeLine by decide, fun p np => ?_⟩
      exact q _ p [] (Keep.new np) ((dk.new np).mono (by omega)) np upd_same List.Pairwise.nil (fun _ z => absurd z List.not_mem_nil) (by show ((0 : Nat) : Int) ≤ m; omega)
    · have hle : lo ≤ hi := by
        have h2 : ¬ (hi < lo) := fun z => e (decide_eq_true z)
        omega
      refine ⟨.int m, rfl, m, rfl, by omega, by omega, fun L nL => ?_⟩
      refine lc_range (lo := 0) (n := m.toNat) (fun i G => Keep [D, R] H G ∧ Deck G D C R (b + 3 * i) ∧ L ≠ D ∧ L ≠ R ∧ ∃ cs : List Int, cs.length = i ∧ (∀ n ∈ cs, lo ≤ n ∧ n ≤ hi) ∧ G L = some (.lst (cs.map V.int)))
        ⟨Keep.new nL, (dk.new nL).mono (by omega), (dk.ne nL).1, (dk.ne nL).2.2, [], rfl, fun _ z => absurd z List.not_mem_nil, upd_same⟩ (fun i G hi' p => ?_) (fun G p => ?_)
      · obtain ⟨k1, d1, n1, n2, cs, l1, c1, e1⟩ := p
        refine ⟨rfl, .int lo, rfl, .ref D, rfl, .int hi, rfl, .int lo, rfl, hi, lo, rfl, rfl, _, 1, rfl, rfl, D, C, R, _, _, rfl, by omega, hh, d1, by omega, fun G2 k kp dk2 a1 a2 => ?_⟩
        have e2 := kp L _ e1 (notDR n1 n2)
        refine ⟨lo, k, rfl, rfl, cs.map V.int, e2, by rw [List.length_map, l1]; exact small1000 (by omega), ?_, ?_, n1, n2, cs ++ [lo + k], by rw [List.length_append, l1]; rfl, ?_, by rw [upd_same, List.map_append]; rfl⟩
        · exact (k1.trans kp).upd nL
        · have nLC : L ≠ C := by
            obtain ⟨oc, ec⟩ := dk.at.2.1
            exact (ne_of_none ec nL).symm
          exact (dk2.other n1 nLC n2).mono (by have : ((i + 1 : Nat) : Int) = (i : Int) + 1 := by omega
                                               omega)
        · intro z hz
          rcases List.mem_append.mp hz with hz | hz
          · exact c1 z hz
          · rw [List.mem_singleton.mp hz]; omega
      · obtain ⟨k1, d1, n1, n2, cs, l1, c1, e1⟩ := p
        refine ⟨L, cs, rfl, SqL.of e1, by omega, fun sa c na hc => ?_⟩
        refine ⟨sa, _, c, rfl, upd_same, by omega, fun ns p pw mem ln np => ?_⟩
        have k2 : Keep [D, R] H (upd G sa (SetO w sa (fun j => decide (j ∈ cs)) c)) := k1.trans (Keep.new na)
        have d2 : Deck (upd G sa (SetO w sa (fun j => decide (j ∈ cs)) c)) D C R (b + 3 * (m.toNat : Nat)) := d1.new na
        refine q _ p ns (k2.trans (Keep.new np)) ((d2.new np).mono (by omega)) (k2.free d2 np) upd_same pw (fun n hn => ?_) (by omega)
        exact c1 n (of_decide_eq_true ((mem n).mp hn))
def spLength : Sp := fun vs H Q _ => ∃ (D C R : Addr) (b far : Int), vs = [.ref D, .int far] ∧ Deck H D C R b ∧ b ≤ 800000000 ∧
  ∀ H' k, Keep [D, R] H H' → Deck H' D C R (b + 6) → 1 ≤ k → k ≤ 1000000000000 → Q (.int k) H'
theorem ok_length (h : Has K mg "_law_length" sLength) (CN : Can P w K mg base "_law_next" ["_law_deck_here", "_law_many"] 1 spNext) (CO : Can P w K mg base "_law_one" ["_law_deck_here", "_law_some"] 2 spOne) :
    Can P w K mg base "_law_length" ["_law_deck_here", "_law_far"] 3 spLength := by
  obtain ⟨f, fd, F, g⟩ := h
  refine ⟨f, fd, F.ok (k := 2) scLength (fun vs H Q E h => ?_) (fun cdv A outer s H vs Q E hr h => ?_), g, F.kp, F.binds fun _ _ _ _ _ _ us hl => match us, hl with | [_, _], _ => rfl⟩
  · obtain ⟨D, C, R, b, far, rfl, _⟩ := h
    rfl
  · obtain ⟨D, C, R, b, far, rfl, dk, hb, q⟩ := h
    refine ⟨_, pss_cons (ps_set (i := 2) scLength.nd rfl (.inl rfl) (pe_lst (pa_cons pe_int (pa_cons (pe_op op_add pe_int (pe_can CN (hr.mono (by decide)) (by rfl) (pa_cons (pv 0) (pa_cons pe_int pa_nil)))) (pa_cons (pe_op op_add pe_int (pe_can CN (hr.mono (by decide)) (by rfl) (pa_cons (pv 0) (pa_cons pe_int pa_nil)))) pa_nil)))))
      (pss_cons (ps_if (pt_cmpR op_gt (pv 1) pe_int (nomark _))
        (pss_one (ps_set (i := 2) scLength.nd rfl (.inl rfl) (pe_op op_cat (pv 2) (pe_lst (pa_cons (pe_op op_add pe_int (pe_can CN (hr.mono (by decide)) (by rfl) (pa_cons (pv 0) (pa_cons pe_int pa_nil))))
          (pa_cons (pe_op op_sub (pe_op op_pow pe_int pe_int) (pe_can CN (hr.mono (by decide)) (by rfl) (pa_cons (pv 0) (pa_cons pe_int pa_nil))))
          (pa_cons (pe_op op_add pe_int (pe_can CN (hr.mono (by decide)) (by rfl) (pa_cons (pv 0) (pa_cons (pe_op op_pow pe_int pe_int) pa_nil)))) pa_nil)))))))
        pss_nil)
      (pss_one (ps_ret (pe_can CO hr (by rfl) (pa_cons (pv 0) (pa_cons (pv 2) pa_nil)))))), ?_⟩
    refine ⟨.ref D, rfl, D, C, R, b, 3, rfl, by decide, by decide, dk, by omega, fun H1 k1 kp1 dk1 a1 a2 => ?_⟩
    refine ⟨1, k1, rfl, rfl, .ref D, rfl, D, C, R, b + 1, 3, rfl, by decide, by decide, dk1, by omega, fun H2 k2 kp2 dk2 a3 a4 => ?_⟩
    refine ⟨2, k2, rfl, rfl, show 3 ≤ sizeLine by decide, fun l nl => ?_⟩
    obtain ⟨n1, n2, n3⟩ := dk2.ne nl
    have kp3 : Keep [D, R] H (upd H2 l (.lst [.int 1, .int (1 + k1), .int (2 + k2)])) := kp1.trans (kp2.trans (Keep.new nl))
    have dk3 : Deck (upd H2 l (.lst [.int 1, .int (1 + k1), .int (2 + k2)])) D C R (b + 1 + 1) := dk2.new nl
    refine ⟨.int far, rfl, far, 0, rfl, rfl, _, rfl, ite2 (fun e => ?_) (fun e => ?_)⟩
    · refine ⟨.ref l, rfl, .ref D, rfl, D, C, R, _, 12, rfl, by decide, by decide, dk3, by omega, fun H4 k4 kp4 dk4 a5 a6 => ?_⟩
      refine ⟨2, k4, rfl, rfl, 10, 12, rfl, rfl, ⟨by decide, by decide, by decide⟩, .ref D, rfl, D, C, R, _, 3, rfl, by decide, by decide, dk4, by omega, fun H5 k5 kp5 dk5 a7 a8 => ?_⟩
      refine ⟨_, k5, rfl, rfl, .ref D, rfl, 10, 12, rfl, rfl, ⟨by decide, by decide, by decide⟩, D, C, R, _, _, rfl, by decide, by decide, dk5, by omega, fun H6 k6 kp6 dk6 a9 a10 => ?_⟩
      refine ⟨1, k6, rfl, rfl, show 3 ≤ sizeLine by decide, fun l2 nl2 => ?_⟩
      have kp7 := kp4.trans (kp5.trans kp6)
      have el6 := kp7 l _ upd_same (notDR n1 n3)
      refine ⟨l, l2, [.int 1, .int (1 + k1), .int (2 + k2)], _, rfl, rfl, by rw [upd_ne (ne_of_none el6 nl2)]; exact el6, upd_same, show 6 ≤ sizeLine by decide, fun l3 nl3 => ?_⟩
      have kp8 := kp3.trans (kp7.trans (Keep.new (av := [D, R]) (o := .lst [.int (2 + k4), .int ((10 : Int) ^ (12 : Int).toNat - k5), .int (1 + k6)]) nl2))
      have dk8 := dk6.new (o := .lst [.int (2 + k4), .int ((10 : Int) ^ (12 : Int).toNat - k5), .int (1 + k6)]) nl2
      obtain ⟨m1, m2, m3⟩ := dk8.ne nl3
      refine ⟨.ref D, rfl, .ref l3, rfl, D, C, R, l3, _, _, rfl, upd_same, show 1 ≤ 6 by decide, show 6 ≤ 1000 by decide, m1, m3, dk8.new nl3, by omega, fun H9 i x kp9 dk9 hx => ?_⟩
      have kp : Keep [D, R] H H9 := kp8.trans ((Keep.new nl3).trans kp9)
      have dkE : Deck H9 D C R (b + 6) := dk9.mono (by omega)
      have t12 : ((10 : Int) ^ (12 : Int).toNat) = 1000000000000 := by decide
      rw [t12] at hx a10
      match i, hx with
      | 0, hx => cases hx; exact q H9 _ kp dkE (by decide) (by decide)
      | 1, hx => cases hx; exact q H9 _ kp dkE (by omega) (by omega)
      | 2, hx => cases hx; exact q H9 _ kp dkE (by omega) (by omega)
      | 3, hx => cases hx; exact q H9 _ kp dkE (by omega) (by omega)
      | 4, hx => cases hx; exact q H9 _ kp dkE (by omega) (by omega)
      | 5, hx => cases hx; exact q H9 _ kp dkE (by omega) (by omega)
      | i + 6, hx => exact nomatch hx
    · refine ⟨.ref D, rfl, .ref l, rfl, D, C, R, l, _, _, rfl, upd_same, show 1 ≤ 3 by decide, show 3 ≤ 1000 by decide, n1, n3, dk3, by omega, fun H9 i x kp9 dk9 hx => ?_⟩
      have kp : Keep [D, R] H H9 := kp3.trans kp9
      have dkE : Deck H9 D C R (b + 6) := dk9.mono (by omega)
      match i, hx with
      | 0, hx => cases hx; exact q H9 _ kp dkE (by decide) (by decide)
      | 1, hx => cases hx; exact q H9 _ kp dkE (by omega) (by omega)
      | 2, hx => cases hx; exact q H9 _ kp dkE (by omega) (by omega)
      | i + 3, hx => exact nomatch hx
end
end Rw

namespace Rw
open PySem PySem.Spec PyProof.Rows L2
/-! addresses that are tracked -/
def Tr (av : List Addr) (H : Hp) : Prop := ∀ a ∈ av, ∃ o, H a = some o
theorem Tr.not {av : List Addr} {H : Hp} {p : Addr} (t : Tr av H) (n : H p = none) : p ∉ av := fun m => by
  obtain ⟨o, e⟩ := t p m
  rw [n] at e; cases e
theorem Tr.upd {av : List Addr} {H : Hp} {p : Addr} {o : HO} (t : Tr av H) : Tr av (upd H p o) := fun a m => by
  by_cases e : a = p
  · subst e; exact ⟨o, upd_same⟩
  · obtain ⟨u, z⟩ := t a m
    exact ⟨u, by rw [upd_ne e]; exact z⟩
theorem Tr.cons {av : List Addr} {H : Hp} {p : Addr} {o : HO} (t : Tr av H) (e : H p = some o) : Tr (p :: av) H := fun a m => by
  rcases List.mem_cons.mp m with m | m
  · rw [m]; exact ⟨o, e⟩
  · exact t a m
theorem Tr.keep {av : List Addr} {H H' : Hp} {D C R : Addr} {b : Int} (t : Tr av H) (k : Keep [D, R] H H') (d : Deck H' D C R b) : Tr av H' := fun a m => by
  cases e : H' a with
  | some o => exact ⟨o, rfl⟩
  | none =>
    obtain ⟨o, z⟩ := t a m
    rw [k.free d e] at z; cases z
theorem ix_listK {X : Cx} {K : PySem.W.Frag} (h : X.K = K) : IxR X (rIxL K) := by subst h; exact ix_list
theorem pick4 (a b c d : Int) (n : Nat) (h : n < 4) : ∃ j, [V.int a, V.int b, V.int c, V.int d][n]? = some (.int j) ∧ (j = a ∨ j = b ∨ j = c ∨ j = d) := by
  match n, h with
  | 0, _ => exact ⟨a, rfl, .inl rfl⟩
  | 1, _ => exact ⟨b, rfl, .inr (.inl rfl)⟩
  | 2, _ => exact ⟨c, rfl, .inr (.inr (.inl rfl))⟩
  | 3, _ => exact ⟨d, rfl, .inr (.inr (.inr rfl))⟩
/-! ### a pipe, by data -/
def prD (p : Int × Int) : PyData := .tuple [.int p.1, .int p.2]
def pipeD (x y l : Int) (na fl : List (Int × Int)) : PyData := .tuple [.int x, .int y, .int l, .tuple (na.map prD), .tuple (fl.map prD)]
structure Fit (l : Int) (na fl : List (Int × Int)) : Prop where
  l1 : 1 ≤ l
  l2 : l ≤ 1000000000000
  nup : (na.map (·.1)).Pairwise (· < ·)
  nin : ∀ p ∈ na, 1 ≤ p.1 ∧ p.1 ≤ l - 1 ∧ 1 ≤ p.2 ∧ p.2 ≤ 1000000
  fup : (fl.map (·.1)).Pairwise (· < ·)
  fin : ∀ p ∈ fl, 0 ≤ p.1 ∧ p.1 ≤ l - 1 ∧ (p.2 = 1 ∨ p.2 = -1)
  nle : na.length ≤ 3
  fle : fl.length ≤ 3
section
variable {P : Program} {w : World} {K : PySem.W.Frag} {mg : Str → Option Value} {base : Heap}
abbrev sPipe : Stmt := topS 31
abbrev nPipe : List Str := ["_law_deck_here", "_law_one_here", "_law_other", "_law_left", "_law_far", "_law_length_here", "_law_spots_here", "_law_hung", "_law_narrows", "_law_at"]
theorem scPipe : FnScope nPipe ["_law_deck_here", "_law_one_here", "_law_other", "_law_left", "_law_far"] (defScope sPipe) := ⟨rfl, rfl, rfl, by decide +kernel, rfl, by decide +kernel, by decide +kernel⟩
def spPipe : Sp := fun vs H Q _ => ∃ (D C R L : Addr) (b x y l0 l1 far : Int) (av : List Addr), vs = [.ref D, .int x, .int y, .ref L, .int far] ∧ H L = some (.lst [.int l0, .int l1]) ∧ 0 ≤ l0 ∧ 0 ≤ l1 ∧ l0 ≤ 100 ∧ l1 ≤ 100 ∧
  L ≠ D ∧ L ≠ C ∧ L ≠ R ∧ (far = 0 ∨ far = 1) ∧ Deck H D C R b ∧ b ≤ 700000000 ∧ Tr av H ∧ D ∈ av ∧ R ∈ av ∧ L ∈ av ∧
  ∀ H' (p : Addr) (l : Int) (na fl : List (Int × Int)), Keep [D, R, L] H H' → Deck H' D C R (b + 60) → H' L = some (.lst [.int (l0 - na.length), .int (l1 - fl.length)]) → (na.length : Int) ≤ l0 → (fl.length : Int) ≤ l1 →
    Fit l na fl → Dt av H' (.ref p) (pipeD x y l na fl) → Tr av H' → Q (.ref p) H'
theorem ok_pipe (h : Has K mg "_law_pipe" sPipe) (B : Blt mg) (CN : Can P w K mg base "_law_next" ["_law_deck_here", "_law_many"] 1 spNext) (CE : Can P w K mg base "_law_edge" ["_law_deck_here", "_law_many"] 3 spEdge)
    (CS : Can P w K mg base "_law_spots" ["_law_deck_here", "_law_low", "_law_high", "_law_many"] 4 spSpots) (CL : Can P w K mg base "_law_length" ["_law_deck_here", "_law_far"] 3 spLength) :
    Can P w K mg base "_law_pipe" ["_law_deck_here", "_law_one_here", "_law_other", "_law_left", "_law_far"] 5 spPipe := by
  obtain ⟨f, fd, F, g⟩ := h
  refine ⟨f, fd, F.ok (k := 4) scPipe (fun vs H Q E h => ?_) (fun cdv A outer s H vs Q E hr h => ?_), g, F.kp, F.binds fun _ _ _ _ _ _ us hl => match us, hl with | [_, _, _, _, _], _ => rfl⟩
  · obtain ⟨D, C, R, L, b, x, y, l0, l1, far, av, rfl, _⟩ := h
    rfl
  · obtain ⟨D, C, R, L, b, x, y, l0, l1, far, av, rfl, eL, p0, p1, p2, p3, nLD, nLC, nLR, hf, dk, hb, tr, mD, mR, mL, q⟩ := h
    refine ⟨_, pss_cons (ps_set (i := 5) scPipe.nd rfl (.inl rfl) (pe_can CL (hr.mono (by decide)) (by rfl) (pa_cons (pv 0) (pa_cons (pv 4) pa_nil))))
      (pss_cons (ps_set (i := 6) scPipe.nd rfl (.inl rfl) (pe_can CS hr (by rfl) (pa_cons (pv 0) (pa_cons pe_int (pa_cons (pe_op op_sub (pv 5) pe_int) (pa_cons (pe_callB (call_min2 rfl) (by rfl) B.min_ boot_min (pa_cons (pe_ix ix_list (pv 3) pe_int (fun _ _ => rfl)) (pa_cons
          (pe_ix ix_list (pe_lst (pa_cons pe_int (pa_cons pe_int (pa_cons pe_int (pa_cons pe_int pa_nil))))) (pe_can CN (hr.mono (by decide)) (by rfl) (pa_cons (pv 0) (pa_cons pe_int pa_nil))) (fun _ _ => rfl)) pa_nil))) pa_nil))))))
      (pss_cons (ps_set (i := 7) scPipe.nd rfl (.inl rfl) (pe_can CS hr (by rfl) (pa_cons (pv 0) (pa_cons pe_int (pa_cons (pe_op op_sub (pv 5) pe_int) (pa_cons (pe_callB (call_min2 rfl) (by rfl) B.min_ boot_min (pa_cons (pe_ix ix_list (pv 3) pe_int (fun _ _ => rfl)) (pa_cons
          (pe_ix ix_list (pe_lst (pa_cons pe_int (pa_cons pe_int (pa_cons pe_int (pa_cons pe_int pa_nil))))) (pe_can CN (hr.mono (by decide)) (by rfl) (pa_cons (pv 0) (pa_cons pe_int pa_nil))) (fun _ _ => rfl)) pa_nil))) pa_nil))))))
      (pss_cons (ps_asg (pe_op op_sub (pe_ix ix_list (pv 3) pe_int (fun _ _ => rfl)) (pe_callB call_len_seq (by rfl) B.len_ PySem.boot_len (pa_cons (pv 6) pa_nil))) (pg_sub (pv 3) pe_int set_list))
      (pss_cons (ps_asg (pe_op op_sub (pe_ix ix_list (pv 3) pe_int (fun _ _ => rfl)) (pe_callB call_len_seq (by rfl) B.len_ PySem.boot_len (pa_cons (pv 7) pa_nil))) (pg_sub (pv 3) pe_int set_list))
      (pss_cons (ps_set (i := 8) scPipe.nd rfl (.inl rfl) (pe_callTy call_tuple_of (by rfl) B.tuple_ boot_tuple (pa_cons
        (pe_lc (own := [("_law_at", 9)]) (g := gName 9) (tt := tYes) rfl scPipe.nd (pi_list (pv 6)) (blkOk_by (N := nPipe) (sc := defScope sPipe) (by decide +kernel))
          (fun _ _ _ _ _ => pg_name (i := 9) scPipe.nd rfl (Or.inl rfl)) (fun _ _ _ _ _ => pts_nil) (fun _ _ _ _ _ => pe_tup (pa_cons (pv 9) (pa_cons (pe_op op_add pe_int (pe_can CE (hr.mono (by decide)) (by rfl) (pa_cons (pv 0) (pa_cons
            (pe_ix (ix_listK (K := K) rfl) (pe_lst (pa_cons pe_int (pa_cons (pe_op op_pow pe_int pe_int) pa_nil))) (pv 4) (fun _ _ => rfl)) pa_nil)))) pa_nil)))) pa_nil)))
      (pss_one (ps_ret (pe_tup (pa_cons (pv 1) (pa_cons (pv 2) (pa_cons (pv 5) (pa_cons (pv 8) (pa_cons (pe_callTy call_tuple_of (by rfl) B.tuple_ boot_tuple (pa_cons
        (pe_lc (own := [("_law_at", 9)]) (g := gName 9) (tt := tYes) rfl scPipe.nd (pi_list (pv 7)) (blkOk_by (N := nPipe) (sc := defScope sPipe) (by decide +kernel))
          (fun _ _ _ _ _ => pg_name (i := 9) scPipe.nd rfl (Or.inl rfl)) (fun _ _ _ _ _ => pts_nil) (fun _ _ _ _ _ => pe_tup (pa_cons (pv 9) (pa_cons (pe_op op_sub pe_int (pe_op op_mul pe_int (pe_can CN (hr.mono (by decide)) (by rfl) (pa_cons (pv 0) (pa_cons pe_int pa_nil))))) pa_nil)))) pa_nil)) pa_nil))))))))))))), ?_⟩
    -- the length
    refine ⟨.ref D, rfl, .int far, rfl, D, C, R, b, far, rfl, dk, by omega, fun H1 l kp1 dk1 hl1 hl2 => ?_⟩
    have eL1 := kp1 L _ eL (notDR nLD nLR)
    -- the narrow places
    refine ⟨.ref D, rfl, .int l, rfl, l, 1, rfl, rfl, .ref L, rfl, L, _, 0, .int l0, rfl, rfl, SqL.of eL1, atI_nat (j := 0) rfl, show 4 ≤ sizeLine by decide, fun a4 n4 => ?_⟩
    refine ⟨.ref D, rfl, D, C, R, b + 6, 4, rfl, by decide, by decide, dk1.new n4, by omega, fun H2 k2 kp2 dk2 a1 a2 => ?_⟩
    obtain ⟨n41, n42, n43⟩ := dk1.ne n4
    obtain ⟨j2, g2, hj2⟩ := pick4 0 0 1 3 k2.toNat (by omega)
    refine ⟨a4, _, k2, .int j2, rfl, rfl, SqL.of (kp2 a4 _ upd_same (notDR n41 n43)), atI_of a1 g2, l0, j2, rfl, ?_⟩
    have kA : Keep [D, R] H H2 := kp1.trans ((Keep.new n4).trans kp2)
    have eL2 := kA L _ eL (notDR nLD nLR)
    refine ⟨D, C, R, b + 6 + 1, 1, l - 1, _, rfl, by omega, by split <;> omega, by split <;> omega, dk2, by omega, fun H3 sa ns kp3 dk3 nsa esa pw1 in1 ln1 => ?_⟩
    have dk3' : Deck H3 D C R (b + 17) := dk3.mono (by revert ln1; split <;> omega)
    have ln1a : ns.length ≤ 3 := by revert ln1; split <;> omega
    have ln1b : (ns.length : Int) ≤ l0 := by revert ln1; split <;> omega
    have kB : Keep [D, R] H H3 := kA.trans kp3
    have eL3 := kB L _ eL (notDR nLD nLR)
    -- the flaps
    refine ⟨.ref D, rfl, .int l, rfl, l, 1, rfl, rfl, .ref L, rfl, L, _, 1, .int l1, rfl, rfl, SqL.of eL3, atI_nat (j := 1) rfl, show 4 ≤ sizeLine by decide, fun a5 n5 => ?_⟩
    refine ⟨.ref D, rfl, D, C, R, b + 17, 4, rfl, by decide, by decide, dk3'.new n5, by omega, fun H4 k4 kp4 dk4 a3 a4' => ?_⟩
    obtain ⟨n51, n52, n53⟩ := dk3'.ne n5
    obtain ⟨j4, g4, hj4⟩ := pick4 0 0 1 2 k4.toNat (by omega)
    refine ⟨a5, _, k4, .int j4, rfl, rfl, SqL.of (kp4 a5 _ upd_same (notDR n51 n53)), atI_of a3 g4, l1, j4, rfl, ?_⟩
    have kC : Keep [D, R] H3 H4 := (Keep.new n5).trans kp4
    refine ⟨D, C, R, b + 17 + 1, 0, l - 1, _, rfl, by omega, by split <;> omega, by split <;> omega, dk4, by omega, fun H5 ha ms kp5 dk5 nha eha pw2 in2 ln2 => ?_⟩
    have dk5' : Deck H5 D C R (b + 24) := dk5.mono (by revert ln2; split <;> omega)
    have ln2a : ms.length ≤ 2 := by revert ln2; split <;> omega
    have ln2b : (ms.length : Int) ≤ l1 := by revert ln2; split <;> omega
    have kD : Keep [D, R] H3 H5 := kC.trans kp5
    have kE : Keep [D, R] H H5 := kB.trans kD
    have eL5 := kE L _ eL (notDR nLD nLR)
    have nsD : sa ≠ D ∧ sa ≠ R ∧ sa ≠ L ∧ sa ≠ C := by
      have z := kA.free dk2 nsa
      obtain ⟨z1, z2, z3⟩ := dk2.ne nsa
      exact ⟨z1, z3, (ne_of_none eL2 nsa).symm, z2⟩
    have esa5 := kD sa _ esa (notDR nsD.1 nsD.2.1)
    have eL4 := kC L _ eL3 (notDR nLD nLR)
    have nhD : ha ≠ D ∧ ha ≠ R ∧ ha ≠ L ∧ ha ≠ C := by
      obtain ⟨z1, z2, z3⟩ := dk4.ne nha
      exact ⟨z1, z3, (ne_of_none eL4 nha).symm, z2⟩
    -- what is left
    refine ⟨.ref L, rfl, L, _, 0, .int l0, rfl, rfl, SqL.of eL5, atI_nat (j := 0) rfl, .ref sa, rfl, sa, _, rfl, .inl (SqL.of esa5), l0, _, rfl, rfl, .ref L, rfl, L, _, 0, 0, rfl, rfl, eL5, rfl, ?_⟩
    rw [List.length_map]
    have esa6 : (upd H5 L (.lst [.int (l0 - (ns.length : Int)), .int l1])) sa = some (.lst (ns.map V.int)) := by rw [upd_ne nsD.2.2.1]; exact esa5
    have eha6 : (upd H5 L (.lst [.int (l0 - (ns.length : Int)), .int l1])) ha = some (.lst (ms.map V.int)) := by rw [upd_ne nhD.2.2.1]; exact eha
    refine ⟨.ref L, rfl, L, [.int (l0 - (ns.length : Int)), .int l1], 1, .int l1, rfl, rfl, SqL.of upd_same, atI_nat (j := 1) rfl, .ref ha, rfl, ha, _, rfl, .inl (SqL.of eha6), l1, _, rfl, rfl, .ref L, rfl, L, [.int (l0 - (ns.length : Int)), .int l1], 1, 1, rfl, rfl, upd_same, rfl, ?_⟩
    rw [List.length_map, upd_upd]
    show (_ : Prop)
    generalize hG : upd H5 L (.lst ([V.int (l0 - (ns.length : Int)), V.int l1].set 1 (V.int (l1 - (ms.length : Int))))) = G
    have eG : upd H5 L (.lst [.int (l0 - (ns.length : Int)), .int (l1 - (ms.length : Int))]) = G := hG
    have esaG : G sa = some (.lst (ns.map V.int)) := by rw [← eG, upd_ne nsD.2.2.1]; exact esa5
    have ehaG : G ha = some (.lst (ms.map V.int)) := by rw [← eG, upd_ne nhD.2.2.1]; exact eha
    have eLG : G L = some (.lst [.int (l0 - (ns.length : Int)), .int (l1 - (ms.length : Int))]) := by rw [← eG]; exact upd_same
    have dkG : Deck G D C R (b + 24) := by rw [← eG]; exact dk5'.other nLD nLC nLR
    have kG : Keep [D, R, L] H G := by
      rw [← eG]; exact (kE.mono (by intro z hz; simp only [List.mem_cons, List.not_mem_nil, or_false] at hz ⊢; rcases hz with hz | hz <;> simp [hz])).trans (Keep.put (by simp))
    have trG : Tr av G := by rw [← eG]; exact (tr.keep kE dk5').upd
    -- narrows
    refine ⟨.ref sa, rfl, sa, rfl, ⟨_, SqL.of esaG⟩, fun W nW => ?_⟩
    have nWD := dkG.ne nW
    refine lc_list (K := K) (a := sa) (xs := ns.map V.int)
      (fun i J => Keep [D, R] G J ∧ Deck J D C R (b + 24 + 3 * i) ∧ ∃ (na : List (Int × Int)) (us : List V), na.length = i ∧ na.map (·.1) = ns.take i ∧ (∀ p ∈ na, 1 ≤ p.2 ∧ p.2 ≤ 1000000) ∧ J W = some (.lst us) ∧ Dts (W :: av) J us (na.map prD))
      ⟨Keep.new nW, (dkG.new nW).mono (by omega), [], [], rfl, rfl, fun _ z => absurd z List.not_mem_nil, upd_same, .nil⟩ (fun i J _ p => SqL.of (p.1 sa _ esaG (notDR nsD.1 nsD.2.1))) (fun i v J hx p => ?_) (fun J p => ?_)
    · obtain ⟨k1, d1, na, us, e1, e2, e3, e4, e5⟩ := p
      rw [List.getElem?_map] at hx
      obtain ⟨n, hn, rfl⟩ := Option.map_eq_some_iff.mp hx
      have hi : i < ns.length := (List.getElem?_eq_some_iff.mp hn).1
      have trJ : Tr (W :: av) J := (trG.keep k1 d1).cons e4
      refine ⟨rfl, .int n, rfl, .ref D, rfl, 10, 6, rfl, rfl, ⟨by decide, by decide, by decide⟩, show 2 ≤ sizeLine by decide, fun a6 n6 => ?_⟩
      obtain ⟨n61, n62, n63⟩ := d1.ne n6
      obtain ⟨m, gm, hm1, hm2⟩ : ∃ m : Int, atI [V.int 3, V.int ((10 : Int) ^ (6 : Int).toNat)] far = some (.int m) ∧ 1 ≤ m ∧ m ≤ 1000000 := by
        rcases hf with rfl | rfl
        · exact ⟨3, atI_nat (j := 0) rfl, by decide, by decide⟩
        · exact ⟨(10 : Int) ^ (6 : Int).toNat, atI_nat (j := 1) rfl, by decide, by decide⟩
      refine ⟨.int far, rfl, a6, _, far, .int m, rfl, rfl, SqL.of upd_same, gm, D, C, R, _, m, rfl, hm1, by omega, d1.new n6, by omega, fun J2 k kp d2 b1 b2 => ?_⟩
      have k2 : Keep [D, R] J J2 := (Keep.new n6).trans kp
      have e4' := k2 W _ e4 (notDR nWD.1 nWD.2.2)
      have e5' : Dts (W :: av) J2 us (na.map prD) := e5.keep (k2.mono (by intro z hz; simp only [List.mem_cons, List.not_mem_nil, or_false] at hz; rcases hz with hz | hz <;> (subst hz; simp [mD, mR])))
      have trJ2 : Tr (W :: av) J2 := trJ.keep k2 d2
      refine ⟨1, k, rfl, rfl, show 2 ≤ sizeLine by decide, fun t nt => ?_⟩
      have ntav := trJ2.not nt
      have e6 : (upd J2 t (.tup [.int n, .int (1 + k)])) W = some (.lst us) := by rw [upd_ne (ne_of_none e4' nt)]; exact e4'
      refine ⟨us, e6, ?_, ?_, ?_, na ++ [(n, 1 + k)], us ++ [.ref t], by rw [List.length_append, e1]; rfl, ?_, ?_, upd_same, ?_⟩
      · have := e5.len
        rw [List.length_map, e1] at this
        rw [this]; exact small1000 (by omega)
      · exact (k1.trans (k2.trans (Keep.new nt))).upd nW
      · have z := d2.new (o := .tup [.int n, .int (1 + k)]) nt
        exact (z.other nWD.1 nWD.2.1 nWD.2.2).mono (by have : ((i + 1 : Nat) : Int) = (i : Int) + 1 := by omega
                                                       omega)
      · rw [List.map_append, e2, List.take_add_one, hn]; rfl
      · intro p hp
        rcases List.mem_append.mp hp with hp | hp
        · exact e3 p hp
        · rw [List.mem_singleton.mp hp]; exact ⟨by show 1 ≤ 1 + k; omega, by show 1 + k ≤ 1000000; omega⟩
      · rw [List.map_append]
        have z : Dts (W :: av) (upd J2 t (.tup [.int n, .int (1 + k)])) (us ++ [.ref t]) (na.map prD ++ [prD (n, 1 + k)]) :=
          (e5'.keep (Keep.new nt)).app (.cons (.tup ntav upd_same (.cons (.int n) (.cons (.int (1 + k)) .nil))) .nil)
        exact z.keep (Keep.put List.mem_cons_self)
    · obtain ⟨k1, d1, na, us, e1, e2, e3, e4, e5⟩ := p
      rw [List.length_map] at d1 e1 e2
      rw [List.take_of_length_le (Nat.le_refl _)] at e2
      refine ⟨W, us, rfl, .inl ⟨SqL.of e4, fun T nT => ?_⟩⟩
      have trJ : Tr (W :: av) J := (trG.keep k1 d1).cons e4
      have dT : Dt av (upd J T (.tup us)) (.ref T) (.tuple (na.map prD)) :=
        .tup (fun m => trJ.not nT (List.mem_cons_of_mem _ m)) upd_same ((e5.keep (Keep.new nT)).less fun a m => List.mem_cons_of_mem _ m)
      have k2 : Keep [D, R] G (upd J T (.tup us)) := k1.trans (Keep.new nT)
      have d2 : Deck (upd J T (.tup us)) D C R (b + 33) := (d1.new nT).mono (by omega)
      have trT : Tr av (upd J T (.tup us)) := trG.keep k2 d2
      generalize upd J T (.tup us) = G2 at *
      have ehaG2 := k2 ha _ ehaG (notDR nhD.1 nhD.2.1)
      have eLG2 := k2 L _ eLG (notDR nLD nLR)
      refine ⟨.int x, rfl, .int y, rfl, .int l, rfl, .ref T, rfl, .ref ha, rfl, ha, rfl, ⟨_, SqL.of ehaG2⟩, fun W2 nW2 => ?_⟩
      have nWE := d2.ne nW2
      refine lc_list (K := K) (a := ha) (xs := ms.map V.int)
        (fun i J => Keep [D, R] G2 J ∧ Deck J D C R (b + 33 + i) ∧ ∃ (fl : List (Int × Int)) (us : List V), fl.length = i ∧ fl.map (·.1) = ms.take i ∧ (∀ p ∈ fl, p.2 = 1 ∨ p.2 = -1) ∧ J W2 = some (.lst us) ∧ Dts (W2 :: av) J us (fl.map prD))
        ⟨Keep.new nW2, (d2.new nW2).mono (by omega), [], [], rfl, rfl, fun _ z => absurd z List.not_mem_nil, upd_same, .nil⟩ (fun i J _ p => SqL.of (p.1 ha _ ehaG2 (notDR nhD.1 nhD.2.1))) (fun i v J hx p => ?_) (fun J p => ?_)
      · obtain ⟨k1, d1, fl, us, f1, f2, f3, f4, f5⟩ := p
        rw [List.getElem?_map] at hx
        obtain ⟨n, hn, rfl⟩ := Option.map_eq_some_iff.mp hx
        have hi : i < ms.length := (List.getElem?_eq_some_iff.mp hn).1
        have trJ : Tr (W2 :: av) J := (trT.keep k1 d1).cons f4
        refine ⟨rfl, .int n, rfl, .ref D, rfl, D, C, R, _, 2, rfl, by decide, by decide, d1, by omega, fun J2 k kp dk' b1 b2 => ?_⟩
        have f4' := kp W2 _ f4 (notDR nWE.1 nWE.2.2)
        have f5' : Dts (W2 :: av) J2 us (fl.map prD) := f5.keep (kp.mono (by intro z hz; simp only [List.mem_cons, List.not_mem_nil, or_false] at hz; rcases hz with hz | hz <;> (subst hz; simp [mD, mR])))
        have trJ2 : Tr (W2 :: av) J2 := trJ.keep kp dk'
        refine ⟨2, k, rfl, rfl, .inl ⟨by decide, by decide⟩, 1, _, rfl, rfl, show 2 ≤ sizeLine by decide, fun t nt => ?_⟩
        have ntav := trJ2.not nt
        have e6 : (upd J2 t (.tup [.int n, .int (1 - 2 * k)])) W2 = some (.lst us) := by rw [upd_ne (ne_of_none f4' nt)]; exact f4'
        refine ⟨us, e6, ?_, ?_, ?_, fl ++ [(n, 1 - 2 * k)], us ++ [.ref t], by rw [List.length_append, f1]; rfl, ?_, ?_, upd_same, ?_⟩
        · have := f5.len
          rw [List.length_map, f1] at this
          rw [this]; exact small1000 (by omega)
        · exact (k1.trans (kp.trans (Keep.new nt))).upd nW2
        · have z := dk'.new (o := .tup [.int n, .int (1 - 2 * k)]) nt
          exact (z.other nWE.1 nWE.2.1 nWE.2.2).mono (by have : ((i + 1 : Nat) : Int) = (i : Int) + 1 := by omega
                                                         omega)
        · rw [List.map_append, f2, List.take_add_one, hn]; rfl
        · intro p hp
          rcases List.mem_append.mp hp with hp | hp
          · exact f3 p hp
          · rw [List.mem_singleton.mp hp]
            show 1 - 2 * k = 1 ∨ 1 - 2 * k = -1
            omega
        · rw [List.map_append]
          have z : Dts (W2 :: av) (upd J2 t (.tup [.int n, .int (1 - 2 * k)])) (us ++ [.ref t]) (fl.map prD ++ [prD (n, 1 - 2 * k)]) :=
            (f5'.keep (Keep.new nt)).app (.cons (.tup ntav upd_same (.cons (.int n) (.cons (.int (1 - 2 * k)) .nil))) .nil)
          exact z.keep (Keep.put List.mem_cons_self)
      · obtain ⟨k3, d3, fl, us', f1, f2, f3, f4, f5⟩ := p
        rw [List.length_map] at d3 f1 f2
        rw [List.take_of_length_le (Nat.le_refl _)] at f2
        refine ⟨W2, us', rfl, .inl ⟨SqL.of f4, fun T2 nT2 => ?_⟩⟩
        have trJ : Tr (W2 :: av) J := (trT.keep k3 d3).cons f4
        refine ⟨show 5 ≤ sizeLine by decide, fun p np => ?_⟩
        have kU : Keep av J (upd J T2 (.tup us')) := Keep.new nT2
        have kV : Keep av (upd J T2 (.tup us')) (upd (upd J T2 (.tup us')) p (.tup [.int x, .int y, .int l, .ref T, .ref T2])) := Keep.new np
        have kJ : Keep av G2 J := k3.mono (by intro z hz; simp only [List.mem_cons, List.not_mem_nil, or_false] at hz; rcases hz with hz | hz <;> (subst hz; assumption))
        have tav : Tr av J := fun a m => trJ a (List.mem_cons_of_mem _ m)
        have dT2 : Dt av (upd J T2 (.tup us')) (.ref T2) (.tuple (fl.map prD)) := .tup (tav.not nT2) upd_same ((f5.keep (Keep.new nT2)).less fun a m => List.mem_cons_of_mem _ m)
        have tU : Tr av (upd J T2 (.tup us')) := tav.upd
        have dTT := ((dT.keep kJ).keep kU).keep kV
        have dT2T := dT2.keep kV
        have k5 : Keep [D, R, L] H (upd (upd J T2 (.tup us')) p (.tup [.int x, .int y, .int l, .ref T, .ref T2])) :=
          kG.trans (((k2.trans (k3.trans ((Keep.new nT2).trans (Keep.new np))))).mono (by intro z hz; simp only [List.mem_cons, List.not_mem_nil, or_false] at hz ⊢; rcases hz with hz | hz <;> simp [hz]))
        refine q _ p l na fl k5 (((d3.new nT2).new np).mono (by omega)) ?_ (by omega) (by omega) ⟨hl1, hl2, by rw [e2]; exact pw1, fun z hz => ?_, by rw [f2]; exact pw2, fun z hz => ?_, by omega, by omega⟩ ?_ tU.upd
        · have z3 := k3 L _ eLG2 (notDR nLD nLR)
          have z4 : (upd J T2 (.tup us')) L = _ := (Keep.new (av := []) nT2) L _ z3 List.not_mem_nil
          have z5 := (Keep.new (av := []) (o := .tup [.int x, .int y, .int l, .ref T, .ref T2]) np) L _ z4 List.not_mem_nil
          rw [z5, e1, f1]
        · have m1 : z.1 ∈ ns := by rw [← e2]; exact List.mem_map_of_mem hz
          have := in1 _ m1
          have := e3 z hz
          omega
        · have m1 : z.1 ∈ ms := by rw [← f2]; exact List.mem_map_of_mem hz
          have := in2 _ m1
          exact ⟨this.1, this.2, f3 z hz⟩
        · exact .tup (tU.not np) upd_same (.cons (.int x) (.cons (.int y) (.cons (.int l) (.cons dTT (.cons dT2T .nil)))))
end
end Rw

namespace Rw
/-! ### rooms joined by pipes: two ways to look, one word -/
abbrev Ed := Nat × Nat
/-! what any parting of the rooms that no pipe crosses says -/
def Con (n : Nat) (E : List Ed) : Prop := ∀ S : Nat → Bool, (∀ e ∈ E, S e.1 = S e.2) → ∀ a, a < n → S a = S 0
/-! groups -/
def grp (g : List Int) (a : Nat) : Int := g.getD a 0
def merge (k o : Int) (g : List Int) : List Int := g.map fun v => if v = o then k else v
def step (g : List Int) (e : Ed) : List Int := merge (grp g e.1) (grp g e.2) g
def joins : List Int → List Ed → Bool
  | _, [] => true
  | g, e :: E => if grp g e.1 = grp g e.2 then false else joins (step g e) E
def start (n : Nat) : List Int := (List.range n).map Int.ofNat
theorem merge_len (k o : Int) (g : List Int) : (merge k o g).length = g.length := List.length_map _
theorem merge_grp {g : List Int} {a : Nat} (h : a < g.length) (k o : Int) : grp (merge k o g) a = if grp g a = o then k else grp g a := by
  unfold grp merge
  rw [List.getD_eq_getElem?_getD, List.getElem?_map, List.getD_eq_getElem?_getD, List.getElem?_eq_getElem h]
  rfl
theorem merge_self (k : Int) (g : List Int) : merge k k g = g := by
  unfold merge
  conv => rhs; rw [← List.map_id g]
  apply List.map_congr_left
  intro v _
  by_cases h : v = k
  · rw [if_pos h, h]; rfl
  · rw [if_neg h]; rfl
/-! how many names of groups are left -/
def used (n : Nat) (g : List Int) : List Nat := (List.range n).filter fun v => decide ((v : Int) ∈ g)
theorem grp_mem {g : List Int} {a : Nat} (h : a < g.length) : grp g a ∈ g := by
  unfold grp
  rw [List.getD_eq_getElem?_getD, List.getElem?_eq_getElem h]
  exact List.getElem_mem h
theorem mem_grp {g : List Int} {v : Int} (h : v ∈ g) : ∃ a, a < g.length ∧ grp g a = v := by
  obtain ⟨a, ha, e⟩ := List.mem_iff_getElem.mp h
  refine ⟨a, ha, ?_⟩
  unfold grp
  rw [List.getD_eq_getElem?_getD, List.getElem?_eq_getElem ha, ← e]; rfl
theorem mem_merge {k o v : Int} {g : List Int} (hk : k ∈ g) (hko : k ≠ o) : v ∈ merge k o g ↔ v ∈ g ∧ v ≠ o := by
  unfold merge
  rw [List.mem_map]
  constructor
  · rintro ⟨u, hu, e⟩
    by_cases h : u = o
    · rw [if_pos h] at e; subst e; exact ⟨hk, hko⟩
    · rw [if_neg h] at e; subst e; exact ⟨hu, h⟩
  · rintro ⟨hv, ho⟩
    exact ⟨v, hv, if_neg ho⟩
theorem filter_drop {n : Nat} {p : Nat → Bool} {o : Nat} : ∀ l : List Nat, l.Nodup → o ∈ l → p o = true → (l.filter fun v => p v && decide (v ≠ o)).length + 1 = (l.filter p).length
  | [], _, h, _ => nomatch h
  | x :: l, nd, h, hp => by
    rw [List.nodup_cons] at nd
    by_cases e : x = o
    · subst e
      have z : (l.filter fun v => p v && decide (v ≠ x)) = l.filter p := by
        apply List.filter_congr
        intro v hv
        have : v ≠ x := fun q => nd.1 (q ▸ hv)
        rw [decide_eq_true this, Bool.and_true]
      rw [List.filter_cons, List.filter_cons, hp]
      simp only [ne_eq, not_true_eq_false, decide_false, Bool.and_false, Bool.false_eq_true, if_false, if_true]
      rw [List.length_cons]
      simp only [ne_eq] at z
      rw [z]
    · have h' : o ∈ l := (List.mem_cons.mp h).elim (fun q => absurd q.symm e) id
      have ih := filter_drop (n := n) l nd.2 h' hp
      rw [List.filter_cons, List.filter_cons, decide_eq_true e, Bool.and_true]
      by_cases px : p x = true
      · rw [if_pos px, if_pos px, List.length_cons, List.length_cons]; omega
      · rw [if_neg px, if_neg px]; exact ih
structure Gs (n : Nat) (g : List Int) : Prop where
  len : g.length = n
  rng : ∀ v ∈ g, 0 ≤ v ∧ v < n
theorem Gs.start (n : Nat) : Gs n (start n) := by
  refine ⟨by unfold Rw.start; rw [List.length_map, List.length_range], fun v hv => ?_⟩
  unfold Rw.start at hv
  obtain ⟨a, ha, rfl⟩ := List.mem_map.mp hv
  have := List.mem_range.mp ha
  exact ⟨Int.natCast_nonneg a, Int.ofNat_lt.mpr this⟩
theorem Gs.step {n : Nat} {g : List Int} {e : Ed} (h : Gs n g) (h1 : e.1 < n) (h2 : e.2 < n) : Gs n (step g e) := by
  refine ⟨by unfold Rw.step; rw [merge_len]; exact h.len, fun v hv => ?_⟩
  unfold Rw.step merge at hv
  obtain ⟨u, hu, rfl⟩ := List.mem_map.mp hv
  by_cases q : u = grp g e.2
  · rw [if_pos q]; exact h.rng _ (grp_mem (by rw [h.len]; exact h1))
  · rw [if_neg q]; exact h.rng u hu
theorem used_step {n : Nat} {g : List Int} {e : Ed} (h : Gs n g) (h1 : e.1 < n) (h2 : e.2 < n) (ne : grp g e.1 ≠ grp g e.2) : (used n (step g e)).length + 1 = (used n g).length := by
  have m1 : grp g e.1 ∈ g := grp_mem (by rw [h.len]; exact h1)
  have m2 : grp g e.2 ∈ g := grp_mem (by rw [h.len]; exact h2)
  have r2 := h.rng _ m2
  have eo : ((grp g e.2).toNat : Int) = grp g e.2 := by omega
  unfold used Rw.step
  have z : ((List.range n).filter fun (v : Nat) => decide ((v : Int) ∈ merge (grp g e.1) (grp g e.2) g)) = (List.range n).filter fun (v : Nat) => decide ((v : Int) ∈ g) && decide (v ≠ (grp g e.2).toNat) := by
    apply List.filter_congr
    intro v _
    rw [← Bool.decide_and]
    apply decide_eq_decide.mpr
    rw [mem_merge m1 ne]
    constructor
    · rintro ⟨a, b⟩; exact ⟨a, fun q => b (by rw [q]; exact eo)⟩
    · rintro ⟨a, b⟩; exact ⟨a, fun q => b (by omega)⟩
  rw [z]
  exact filter_drop (n := n) (List.range n) List.nodup_range (List.mem_range.mpr (by omega)) (decide_eq_true (by rw [eo]; exact m2))
theorem used_start (n : Nat) : (used n (start n)).length = n := by
  unfold used
  rw [List.filter_eq_self.mpr (fun v hv => decide_eq_true (by unfold Rw.start; exact List.mem_map.mpr ⟨v, hv, rfl⟩)), List.length_range]
/-! all pipes taken, whether or not they join anew -/
def run (g : List Int) (E : List Ed) : List Int := E.foldl step g
theorem run_gs {n : Nat} : ∀ (E : List Ed) (g : List Int), (∀ e ∈ E, e.1 < n ∧ e.2 < n) → Gs n g → Gs n (run g E)
  | [], g, _, h => h
  | e :: E, g, hE, h => run_gs E (step g e) (fun f m => hE f (List.mem_cons_of_mem _ m)) (h.step (hE e List.mem_cons_self).1 (hE e List.mem_cons_self).2)
theorem used_run {n : Nat} : ∀ (E : List Ed) (g : List Int), (∀ e ∈ E, e.1 < n ∧ e.2 < n) → Gs n g → (used n g).length ≤ (used n (run g E)).length + E.length ∧ (joins g E = true → (used n g).length = (used n (run g E)).length + E.length) ∧ (joins g E = false → (used n g).length < (used n (run g E)).length + E.length)
  | [], g, _, h => ⟨Nat.le_refl _, fun _ => rfl, fun q => nomatch q⟩
  | e :: E, g, hE, h => by
    have he := hE e List.mem_cons_self
    have ih := used_run E (step g e) (fun f m => hE f (List.mem_cons_of_mem _ m)) (h.step he.1 he.2)
    have er : run g (e :: E) = run (step g e) E := rfl
    have ej : joins g (e :: E) = if grp g e.1 = grp g e.2 then false else joins (step g e) E := rfl
    rw [er, ej, List.length_cons]
    by_cases q : grp g e.1 = grp g e.2
    · have es : step g e = g := by unfold Rw.step; rw [q]; exact merge_self _ _
      rw [es] at ih ⊢
      rw [if_pos q]
      exact ⟨by omega, fun z => absurd z (by decide), fun _ => by omega⟩
    · have u := used_step h he.1 he.2 q
      rw [if_neg q]
      refine ⟨by omega, fun z => ?_, fun z => ?_⟩
      · have := ih.2.1 z; omega
      · have := ih.2.2 z; omega
/-! rooms of one group stay of one group; a pipe's rooms are of one -/
theorem step_keep {g : List Int} {e : Ed} {a b : Nat} (ha : a < g.length) (hb : b < g.length) (h : grp g a = grp g b) : grp (step g e) a = grp (step g e) b := by
  unfold step
  rw [merge_grp ha, merge_grp hb, h]
theorem step_both {g : List Int} {e : Ed} (ha : e.1 < g.length) (hb : e.2 < g.length) : grp (step g e) e.1 = grp (step g e) e.2 := by
  unfold step
  rw [merge_grp ha, merge_grp hb, if_pos rfl]
  split <;> rfl
theorem run_keep {n : Nat} : ∀ (E : List Ed) (g : List Int), (∀ e ∈ E, e.1 < n ∧ e.2 < n) → Gs n g → ∀ a b, a < n → b < n → grp g a = grp g b → grp (run g E) a = grp (run g E) b
  | [], _, _, _, _, _, _, _, h => h
  | e :: E, g, hE, hg, a, b, ha, hb, h => by
    have he := hE e List.mem_cons_self
    exact run_keep E (step g e) (fun f m => hE f (List.mem_cons_of_mem _ m)) (hg.step he.1 he.2) a b ha hb (step_keep (by rw [hg.len]; exact ha) (by rw [hg.len]; exact hb) h)
theorem run_edges {n : Nat} : ∀ (E : List Ed) (g : List Int), (∀ e ∈ E, e.1 < n ∧ e.2 < n) → Gs n g → ∀ e ∈ E, grp (run g E) e.1 = grp (run g E) e.2
  | [], _, _, _, _, m => nomatch m
  | e :: E, g, hE, hg, f, m => by
    have he := hE e List.mem_cons_self
    have hg' := hg.step he.1 he.2
    have hE' : ∀ f ∈ E, f.1 < n ∧ f.2 < n := fun f m => hE f (List.mem_cons_of_mem _ m)
    rcases List.mem_cons.mp m with m | m
    · subst m
      exact run_keep E (step g f) hE' hg' f.1 f.2 he.1 he.2 (step_both (by rw [hg.len]; exact he.1) (by rw [hg.len]; exact he.2))
    · exact run_edges E (step g e) hE' hg' f m
/-! a parting that no pipe crosses holds groups together -/
theorem run_part {n : Nat} (S : Nat → Bool) : ∀ (E : List Ed) (g : List Int), (∀ e ∈ E, e.1 < n ∧ e.2 < n) → (∀ e ∈ E, S e.1 = S e.2) → Gs n g → (∀ a b, a < n → b < n → grp g a = grp g b → S a = S b) → ∀ a b, a < n → b < n → grp (run g E) a = grp (run g E) b → S a = S b
  | [], _, _, _, _, h, a, b, ha, hb, e => h a b ha hb e
  | e :: E, g, hE, hS, hg, h, a, b, ha, hb, q => by
    have he := hE e List.mem_cons_self
    have hs := hS e List.mem_cons_self
    refine run_part S E (step g e) (fun f m => hE f (List.mem_cons_of_mem _ m)) (fun f m => hS f (List.mem_cons_of_mem _ m)) (hg.step he.1 he.2) (fun c d hc hd z => ?_) a b ha hb q
    unfold step at z
    rw [merge_grp (by rw [hg.len]; exact hc), merge_grp (by rw [hg.len]; exact hd)] at z
    by_cases c1 : grp g c = grp g e.2
    · by_cases d1 : grp g d = grp g e.2
      · exact h c d hc hd (c1.trans d1.symm)
      · rw [if_pos c1, if_neg d1] at z
        rw [h c e.2 hc he.2 c1, ← hs, h d e.1 hd he.1 z.symm]
    · by_cases d1 : grp g d = grp g e.2
      · rw [if_neg c1, if_pos d1] at z
        rw [h d e.2 hd he.2 d1, ← hs, h c e.1 hc he.1 z]
      · rw [if_neg c1, if_neg d1] at z
        exact h c d hc hd z
theorem start_inj {n a b : Nat} (ha : a < n) (hb : b < n) (h : grp (start n) a = grp (start n) b) : a = b := by
  unfold grp start at h
  rw [List.getD_eq_getElem?_getD, List.getD_eq_getElem?_getD, List.getElem?_map, List.getElem?_map, List.getElem?_range ha, List.getElem?_range hb] at h
  exact Int.ofNat.inj h
theorem one_used {n : Nat} {g : List Int} (hg : Gs n g) (h : (used n g).length ≤ 1) {a b : Nat} (ha : a < n) (hb : b < n) : grp g a = grp g b := by
  have ma := grp_mem (g := g) (by rw [hg.len]; exact ha)
  have mb := grp_mem (g := g) (by rw [hg.len]; exact hb)
  have ra := hg.rng _ ma
  have rb := hg.rng _ mb
  have ua : (grp g a).toNat ∈ used n g := List.mem_filter.mpr ⟨List.mem_range.mpr (by omega), decide_eq_true (by rw [show (((grp g a).toNat : Nat) : Int) = grp g a by omega]; exact ma)⟩
  have ub : (grp g b).toNat ∈ used n g := List.mem_filter.mpr ⟨List.mem_range.mpr (by omega), decide_eq_true (by rw [show (((grp g b).toNat : Nat) : Int) = grp g b by omega]; exact mb)⟩
  match hu : used n g, h with
  | [], _ => rw [hu] at ua; exact absurd ua List.not_mem_nil
  | [x], _ =>
    rw [hu] at ua ub
    have e1 := List.mem_singleton.mp ua
    have e2 := List.mem_singleton.mp ub
    omega
theorem used_one {n : Nat} {g : List Int} (hg : Gs n g) (h : ∀ a, a < n → grp g a = grp g 0) : (used n g).length ≤ 1 := by
  have nd : (used n g).Nodup := List.nodup_range.filter _
  have all : ∀ v ∈ used n g, (v : Int) = grp g 0 := fun v hv => by
    obtain ⟨a, ha, e⟩ := mem_grp (of_decide_eq_true (List.mem_filter.mp hv).2)
    rw [← e]
    exact h a (by rw [← hg.len]; exact ha)
  match hu : used n g, nd, all with
  | [], _, _ => exact Nat.zero_le _
  | [x], _, _ => exact Nat.le_refl _
  | x :: y :: r, nd, all =>
    have e1 := all x List.mem_cons_self
    have e2 := all y (List.mem_cons_of_mem _ List.mem_cons_self)
    rw [List.nodup_cons] at nd
    exact absurd (show x ∈ y :: r by rw [show x = y by omega]; exact List.mem_cons_self) nd.1
theorem joins_iff {n : Nat} {E : List Ed} (hn : 0 < n) (hE : ∀ e ∈ E, e.1 < n ∧ e.2 < n) (hl : E.length + 1 = n) : joins (start n) E = true ↔ Con n E := by
  have hg := Gs.start n
  have hr := run_gs E (start n) hE hg
  have hu := used_run E (start n) hE hg
  rw [used_start] at hu
  constructor
  · intro hj S hS a ha
    have h1 := hu.2.1 hj
    have eq := one_used hr (by omega) ha hn
    exact run_part S E (start n) hE hS hg (fun c d hc hd z => by rw [start_inj hc hd z]) a 0 ha hn eq
  · intro hc
    cases hj : joins (start n) E with
    | true => rfl
    | false =>
      have h1 := hu.2.2 hj
      have all : ∀ a, a < n → grp (run (start n) E) a = grp (run (start n) E) 0 := fun a ha => by
        have z := hc (fun a => decide (grp (run (start n) E) a = grp (run (start n) E) 0)) (fun e m => by
          have := run_edges E (start n) hE hg e m
          show decide _ = decide _
          rw [this]) a ha
        have z0 : decide (grp (run (start n) E) 0 = grp (run (start n) E) 0) = true := decide_eq_true rfl
        exact of_decide_eq_true (z.trans z0)
      have := used_one hr all
      omega
end Rw

namespace Rw
/-! least numbers handed on along the pipes, round by round -/
def low2 (i j : Int) : Int := if j < i then j else i
def lows (l : List Int) (e : Ed) : List Int := (l.set e.1 (low2 (grp l e.1) (grp l e.2))).set e.2 (low2 (grp l e.1) (grp l e.2))
def rnd (l : List Int) (E : List Ed) : List Int := E.foldl lows l
def rounds : Nat → List Int → List Ed → List Int
  | 0, l, _ => l
  | k + 1, l, E => rounds k (rnd l E) E
def allJ (n : Nat) (E : List Ed) : Bool := (List.range n).all fun a => decide (grp (rounds n (start n) E) a = 0)
theorem grp_set {l : List Int} {x a : Nat} {v : Int} (h : x < l.length) : grp (l.set x v) a = if a = x then v else grp l a := by
  unfold grp
  rw [List.getD_eq_getElem?_getD, List.getD_eq_getElem?_getD, List.getElem?_set]
  by_cases e : x = a
  · rw [if_pos e, if_pos e.symm]
    subst e
    rw [if_pos h]; rfl
  · rw [if_neg e, if_neg (fun q => e q.symm)]
theorem lows_grp {n : Nat} {l : List Int} {e : Ed} (hl : l.length = n) (h1 : e.1 < n) (h2 : e.2 < n) (a : Nat) : grp (lows l e) a = if a = e.1 ∨ a = e.2 then low2 (grp l e.1) (grp l e.2) else grp l a := by
  unfold lows
  rw [grp_set (by rw [List.length_set, hl]; exact h2), grp_set (by rw [hl]; exact h1)]
  by_cases q2 : a = e.2
  · rw [if_pos q2, if_pos (Or.inr q2)]
  · rw [if_neg q2]
    by_cases q1 : a = e.1
    · rw [if_pos q1, if_pos (Or.inl q1)]
    · rw [if_neg q1, if_neg (fun z => z.elim q1 q2)]
theorem low2_or (i j : Int) : low2 i j = i ∨ low2 i j = j := by
  unfold low2; split
  · exact Or.inr rfl
  · exact Or.inl rfl
theorem low2_le (i j : Int) : low2 i j ≤ i ∧ low2 i j ≤ j := by unfold low2; split <;> omega
theorem lows_gs {n : Nat} {l : List Int} {e : Ed} (h : Gs n l) (h1 : e.1 < n) (h2 : e.2 < n) : Gs n (lows l e) := by
  refine ⟨by unfold lows; rw [List.length_set, List.length_set]; exact h.len, fun v hv => ?_⟩
  obtain ⟨a, ha, rfl⟩ := mem_grp hv
  have m1 := h.rng _ (grp_mem (g := l) (a := e.1) (by rw [h.len]; exact h1))
  have m2 := h.rng _ (grp_mem (g := l) (a := e.2) (by rw [h.len]; exact h2))
  rw [lows_grp h.len h1 h2]
  split
  · rcases low2_or (grp l e.1) (grp l e.2) with q | q <;> rw [q] <;> assumption
  · refine h.rng _ (grp_mem ?_)
    unfold lows at ha
    rw [List.length_set, List.length_set] at ha
    exact ha
theorem lows_zero {n : Nat} {l : List Int} {e : Ed} (h : Gs n l) (h1 : e.1 < n) (h2 : e.2 < n) {a : Nat} (ha : a < n) (z : grp l a = 0) : grp (lows l e) a = 0 := by
  have m1 := h.rng _ (grp_mem (g := l) (a := e.1) (by rw [h.len]; exact h1))
  have m2 := h.rng _ (grp_mem (g := l) (a := e.2) (by rw [h.len]; exact h2))
  rw [lows_grp h.len h1 h2]
  have b := low2_le (grp l e.1) (grp l e.2)
  by_cases q : a = e.1 ∨ a = e.2
  · rw [if_pos q]
    rcases low2_or (grp l e.1) (grp l e.2) with o | o <;> rcases q with q | q <;> subst q <;> omega
  · rw [if_neg q]; exact z
theorem lows_both {n : Nat} {l : List Int} {e : Ed} (h : Gs n l) (h1 : e.1 < n) (h2 : e.2 < n) (z : grp l e.1 = 0 ∨ grp l e.2 = 0) : grp (lows l e) e.1 = 0 ∧ grp (lows l e) e.2 = 0 := by
  have m1 := h.rng _ (grp_mem (g := l) (a := e.1) (by rw [h.len]; exact h1))
  have m2 := h.rng _ (grp_mem (g := l) (a := e.2) (by rw [h.len]; exact h2))
  have b := low2_le (grp l e.1) (grp l e.2)
  have o := low2_or (grp l e.1) (grp l e.2)
  rw [lows_grp h.len h1 h2, lows_grp h.len h1 h2, if_pos (Or.inl rfl), if_pos (Or.inr rfl)]
  have : low2 (grp l e.1) (grp l e.2) = 0 := by rcases o with o | o <;> rcases z with z | z <;> omega
  exact ⟨this, this⟩
theorem rnd_all {n : Nat} : ∀ (E : List Ed) (l : List Int), (∀ e ∈ E, e.1 < n ∧ e.2 < n) → Gs n l → Gs n (rnd l E) ∧ (∀ a, a < n → grp l a = 0 → grp (rnd l E) a = 0) ∧ ∀ e ∈ E, (grp l e.1 = 0 ∨ grp l e.2 = 0) → grp (rnd l E) e.1 = 0 ∧ grp (rnd l E) e.2 = 0
  | [], l, _, h => ⟨h, fun _ _ z => z, fun _ m => nomatch m⟩
  | e :: E, l, hE, h => by
    have he := hE e List.mem_cons_self
    obtain ⟨i1, i2, i3⟩ := rnd_all E (lows l e) (fun f m => hE f (List.mem_cons_of_mem _ m)) (lows_gs h he.1 he.2)
    have er : rnd l (e :: E) = rnd (lows l e) E := rfl
    rw [er]
    refine ⟨i1, fun a ha z => i2 a ha (lows_zero h he.1 he.2 ha z), fun f m z => ?_⟩
    have hf := hE f m
    rcases List.mem_cons.mp m with m | m
    · subst m
      have b := lows_both h he.1 he.2 z
      exact ⟨i2 _ he.1 b.1, i2 _ he.2 b.2⟩
    · exact i3 f m (z.elim (fun z => Or.inl (lows_zero h he.1 he.2 hf.1 z)) (fun z => Or.inr (lows_zero h he.1 he.2 hf.2 z)))
theorem filter_le {p q : Nat → Bool} : ∀ L : List Nat, (∀ v ∈ L, p v = true → q v = true) → (L.filter p).length ≤ (L.filter q).length ∧ ((∃ v ∈ L, q v = true ∧ p v = false) → (L.filter p).length < (L.filter q).length)
  | [], _ => ⟨Nat.le_refl _, fun ⟨_, m, _⟩ => nomatch m⟩
  | x :: L, h => by
    obtain ⟨i1, i2⟩ := filter_le L fun v m => h v (List.mem_cons_of_mem _ m)
    have hx := h x List.mem_cons_self
    rw [List.filter_cons, List.filter_cons]
    by_cases px : p x = true
    · rw [if_pos px, if_pos (hx px), List.length_cons, List.length_cons]
      refine ⟨by omega, fun ⟨v, m, qv, pv⟩ => ?_⟩
      rcases List.mem_cons.mp m with m | m
      · subst m; rw [px] at pv; cases pv
      · have := i2 ⟨v, m, qv, pv⟩; omega
    · rw [if_neg px]
      by_cases qx : q x = true
      · rw [if_pos qx, List.length_cons]
        exact ⟨by omega, fun _ => by omega⟩
      · rw [if_neg qx]
        refine ⟨i1, fun ⟨v, m, qv, pv⟩ => ?_⟩
        rcases List.mem_cons.mp m with m | m
        · subst m; exact absurd qv qx
        · exact i2 ⟨v, m, qv, pv⟩
def cz (n : Nat) (l : List Int) : Nat := ((List.range n).filter fun a => decide (grp l a = 0)).length
theorem grow {n : Nat} {E : List Ed} {l : List Int} (hn : 0 < n) (hE : ∀ e ∈ E, e.1 < n ∧ e.2 < n) (hc : Con n E) (h : Gs n l) (h0 : grp l 0 = 0) (hx : ¬ ∀ a, a < n → grp l a = 0) : cz n l < cz n (rnd l E) := by
  obtain ⟨r1, r2, r3⟩ := rnd_all E l hE h
  refine (filter_le (List.range n) fun v m z => decide_eq_true (r2 v (List.mem_range.mp m) (of_decide_eq_true z))).2 ?_
  -- some pipe leads out of the noughts
  have ex : ∃ e ∈ E, ¬ (decide (grp l e.1 = 0) = decide (grp l e.2 = 0)) := by
    apply Classical.byContradiction
    intro no
    apply hx
    intro a ha
    have z := hc (fun a => decide (grp l a = 0)) (fun e m => Classical.byContradiction fun q => no ⟨e, m, q⟩) a ha
    exact of_decide_eq_true (z.trans (decide_eq_true h0))
  obtain ⟨e, me, ne⟩ := ex
  have he := hE e me
  by_cases z1 : grp l e.1 = 0
  · by_cases z2 : grp l e.2 = 0
    · exact absurd (by rw [decide_eq_true z1, decide_eq_true z2]) ne
    · exact ⟨e.2, List.mem_range.mpr he.2, decide_eq_true (r3 e me (Or.inl z1)).2, decide_eq_false z2⟩
  · by_cases z2 : grp l e.2 = 0
    · exact ⟨e.1, List.mem_range.mpr he.1, decide_eq_true (r3 e me (Or.inr z2)).1, decide_eq_false z1⟩
    · exact absurd (by rw [decide_eq_false z1, decide_eq_false z2]) ne
theorem rounds_grow {n : Nat} {E : List Ed} (hn : 0 < n) (hE : ∀ e ∈ E, e.1 < n ∧ e.2 < n) (hc : Con n E) : ∀ (k : Nat) (l : List Int), Gs n l → grp l 0 = 0 → (∀ a, a < n → grp (rounds k l E) a = 0) ∨ cz n l + k ≤ cz n (rounds k l E)
  | 0, l, _, _ => Or.inr (Nat.le_refl _)
  | k + 1, l, h, h0 => by
    obtain ⟨r1, r2, _⟩ := rnd_all E l hE h
    have ih := rounds_grow hn hE hc k (rnd l E) r1 (r2 0 hn h0)
    have er : rounds (k + 1) l E = rounds k (rnd l E) E := rfl
    rw [er]
    rcases ih with ih | ih
    · exact Or.inl ih
    · by_cases hx : ∀ a, a < n → grp l a = 0
      · left
        have keep : ∀ (k : Nat) (l : List Int), Gs n l → (∀ a, a < n → grp l a = 0) → ∀ a, a < n → grp (rounds k l E) a = 0 := by
          intro k
          induction k with
          | zero => intro l _ z; exact z
          | succ k ih =>
            intro l g z
            obtain ⟨s1, s2, _⟩ := rnd_all E l hE g
            exact ih (rnd l E) s1 fun a ha => s2 a ha (z a ha)
        exact keep k (rnd l E) r1 fun a ha => r2 a ha (hx a ha)
      · right
        have := grow hn hE hc h h0 hx
        omega
theorem rounds_part {n : Nat} {E : List Ed} {S : Nat → Bool} (hE : ∀ e ∈ E, e.1 < n ∧ e.2 < n) (hS : ∀ e ∈ E, S e.1 = S e.2) : ∀ (k : Nat) (l : List Int), Gs n l → (∀ a, a < n → S (grp l a).toNat = S a) → ∀ a, a < n → S (grp (rounds k l E) a).toNat = S a := by
  have one : ∀ (E' : List Ed) (l : List Int), (∀ e ∈ E', e.1 < n ∧ e.2 < n) → (∀ e ∈ E', S e.1 = S e.2) → Gs n l → (∀ a, a < n → S (grp l a).toNat = S a) → ∀ a, a < n → S (grp (rnd l E') a).toNat = S a := by
    intro E'
    induction E' with
    | nil => intro l _ _ _ z; exact z
    | cons e E' ih =>
      intro l hE' hS' g z
      have he := hE' e List.mem_cons_self
      have hs := hS' e List.mem_cons_self
      refine ih (lows l e) (fun f m => hE' f (List.mem_cons_of_mem _ m)) (fun f m => hS' f (List.mem_cons_of_mem _ m)) (lows_gs g he.1 he.2) fun a ha => ?_
      rw [lows_grp g.len he.1 he.2]
      by_cases q : a = e.1 ∨ a = e.2
      · rw [if_pos q]
        rcases low2_or (grp l e.1) (grp l e.2) with o | o
        · rw [o, z e.1 he.1]
          rcases q with q | q
          · rw [q]
          · rw [q]; exact hs
        · rw [o, z e.2 he.2]
          rcases q with q | q
          · rw [q]; exact hs.symm
          · rw [q]
      · rw [if_neg q]; exact z a ha
  intro k
  induction k with
  | zero => intro l _ z; exact z
  | succ k ih =>
    intro l g z
    exact ih (rnd l E) (rnd_all E l hE g).1 (one E l hE hS g z)
theorem start_grp {n a : Nat} (h : a < n) : grp (start n) a = (a : Int) := by
  unfold grp start
  rw [List.getD_eq_getElem?_getD, List.getElem?_map, List.getElem?_range h]; rfl
theorem allJ_iff {n : Nat} {E : List Ed} (hn : 0 < n) (hE : ∀ e ∈ E, e.1 < n ∧ e.2 < n) : allJ n E = true ↔ Con n E := by
  unfold allJ
  rw [List.all_eq_true]
  constructor
  · intro h S hS a ha
    have z := rounds_part hE hS n (start n) (Gs.start n) (fun b hb => by rw [start_grp hb]; rfl) a ha
    rw [of_decide_eq_true (h a (List.mem_range.mpr ha))] at z
    exact z.symm
  · intro hc a ha
    have ha' := List.mem_range.mp ha
    apply decide_eq_true
    rcases rounds_grow hn hE hc n (start n) (Gs.start n) (start_grp hn) with z | z
    · exact z a ha'
    · have c1 : 1 ≤ cz n (start n) := by
        unfold cz
        exact List.length_pos_of_mem (List.mem_filter.mpr ⟨List.mem_range.mpr hn, decide_eq_true (start_grp hn)⟩)
      have c2 : cz n (rounds n (start n) E) ≤ n := by
        unfold cz
        exact Nat.le_trans (List.length_filter_le _ _) (by rw [List.length_range]; exact Nat.le_refl _)
      omega
/-! both looks say the same -/
theorem joins_eq {n : Nat} {E : List Ed} (hn : 0 < n) (hE : ∀ e ∈ E, e.1 < n ∧ e.2 < n) (hl : E.length + 1 = n) : joins (start n) E = allJ n E := by
  have a := joins_iff hn hE hl
  have b := allJ_iff (E := E) hn hE
  cases h1 : joins (start n) E <;> cases h2 : allJ n E
  · rfl
  · have := a.mpr (b.mp h2); rw [h1] at this; exact this.symm ▸ rfl
  · have := b.mpr (a.mp h1); rw [h2] at this; cases this
  · rfl
end Rw

namespace Rw
open PySem PySem.Spec PyProof.Rows L2
structure Pi where
  x : Int
  y : Int
  l : Int
  na : List (Int × Int)
  fl : List (Int × Int)
def Pi.dat (p : Pi) : PyData := pipeD p.x p.y p.l p.na p.fl
structure Pi.ok (n : Int) (p : Pi) : Prop where
  x0 : 0 ≤ p.x
  x1 : p.x ≤ n - 1
  y0 : 0 ≤ p.y
  y1 : p.y ≤ n - 1
  xy : p.x < p.y
  fit : Fit p.l p.na p.fl
theorem ins_perm {α : Type} (xs : List α) (k : Nat) (y : α) : (xs.take k ++ [y] ++ xs.drop k).Perm (y :: xs) := by
  rw [List.append_assoc]
  refine List.perm_middle.trans ?_
  show (y :: (xs.take k ++ xs.drop k)).Perm (y :: xs)
  rw [List.take_append_drop]
theorem ins_sum {α : Type} (f : α → Nat) (xs : List α) (k : Nat) (y : α) : ((xs.take k ++ [y] ++ xs.drop k).map f).sum = f y + (xs.map f).sum := by
  have e : (xs.map f).sum = ((xs.take k).map f).sum + ((xs.drop k).map f).sum := by
    rw [← List.sum_append, ← List.map_append, List.take_append_drop]
  rw [List.map_append, List.map_append, List.sum_append, List.sum_append, e]
  simp only [List.map_cons, List.map_nil, List.sum_cons, List.sum_nil]
  omega
theorem start_succ (i : Nat) : (start (i + 1)).Perm ((i : Int) :: start i) := by
  unfold start
  rw [List.range_succ, List.map_append]
  exact List.perm_append_comm
theorem start_mem {n : Nat} {v : Int} : v ∈ start n ↔ 0 ≤ v ∧ v < n := by
  unfold start
  rw [List.mem_map]
  constructor
  · rintro ⟨a, ha, rfl⟩
    have := List.mem_range.mp ha
    exact ⟨Int.natCast_nonneg a, Int.ofNat_lt.mpr this⟩
  · rintro ⟨h0, h1⟩
    exact ⟨v.toNat, List.mem_range.mpr (by omega), by show ((v.toNat : Nat) : Int) = v; omega⟩
theorem start_nodup (n : Nat) : (start n).Nodup := by
  unfold start
  exact List.Pairwise.map _ (fun a b h q => h (Int.ofNat.inj q)) List.nodup_range
def edges (ps : List Pi) : List Ed := ps.map fun p => (p.x.toNat, p.y.toNat)
theorem perm2 {a b : Int} {ns : List Int} (h : ns.Perm [a, b]) : ns = [a, b] ∨ ns = [b, a] := by
  have hl : ns.length = 2 := h.length_eq
  match ns, hl with
  | [u, v], _ =>
    have hu : u = a ∨ u = b := by simpa using h.mem_iff.mp (List.mem_cons_self (a := u) (l := [v]))
    rcases hu with rfl | rfl
    · have := (List.perm_cons u).mp h
      have e := List.perm_singleton.mp this
      left; rw [e]
    · have h2 : [u, v].Perm [u, a] := h.trans (List.Perm.swap u a [])
      have := (List.perm_cons u).mp h2
      have e := List.perm_singleton.mp this
      right; rw [e]
section
variable {P : Program} {w : World} {K : PySem.W.Frag} {mg : Str → Option Value} {base : Heap}
abbrev sHouse : Stmt := topS 32
abbrev nHouse : List Str := ["_law_deck_here", "_law_most", "_law_far", "_law_flaps", "_law_rooms", "_law_names", "_law_room", "_law_pipes", "_law_left", "_law_k", "_law_pair", "_law_new"]
theorem scHouse : FnScope nHouse ["_law_deck_here", "_law_most", "_law_far", "_law_flaps"] (defScope sHouse) := ⟨rfl, rfl, rfl, by decide +kernel, rfl, by decide +kernel, by decide +kernel⟩
def spHouse : Sp := fun vs H Q _ => ∃ (D C R : Addr) (b most far flaps : Int) (av : List Addr), vs = [.ref D, .int most, .int far, .int flaps] ∧ 1 ≤ most ∧ most ≤ 16 ∧ (far = 0 ∨ far = 1) ∧ 0 ≤ flaps ∧ flaps ≤ 1 ∧
  Deck H D C R b ∧ b ≤ 600000000 ∧ Tr av H ∧ D ∈ av ∧ R ∈ av ∧
  ∀ H' (p : Addr) (n : Int) (ps : List Pi), Keep [D, R] H H' → Deck H' D C R (b + 2000) → 1 ≤ n → n ≤ 16 → (ps.length : Int) = n - 1 → (∀ p ∈ ps, p.ok n) → Con n.toNat (edges ps) → (ps.map fun p => p.na.length).sum ≤ 12 → (ps.map fun p => p.fl.length).sum ≤ 6 → Dt av H' (.ref p) (houseD n (ps.map Pi.dat)) → Tr av H' → Q (.ref p) H'
theorem ok_house (h : Has K mg "_law_house" sHouse) (B : Blt mg) (CN : Can P w K mg base "_law_next" ["_law_deck_here", "_law_many"] 1 spNext)
    (CP : Can P w K mg base "_law_pipe" ["_law_deck_here", "_law_one_here", "_law_other", "_law_left", "_law_far"] 5 spPipe) : Can P w K mg base "_law_house" ["_law_deck_here", "_law_most", "_law_far", "_law_flaps"] 6 spHouse := by
  obtain ⟨f, fd, F, g⟩ := h
  refine ⟨f, fd, F.ok (k := 5) scHouse (fun vs H Q E h => ?_) (fun cdv A outer s H vs Q E hr h => ?_), g, F.kp, F.binds fun _ _ _ _ _ _ us hl => match us, hl with | [_, _, _, _], _ => rfl⟩
  · obtain ⟨D, C, R, b, most, far, flaps, av, rfl, _⟩ := h
    rfl
  · obtain ⟨D, C, R, b, most, far, flaps, av, rfl, m1, m2, hf, f0, f1, dk, hb, tr, mD, mR, q⟩ := h
    refine ⟨_, pss_cons (ps_set (i := 4) scHouse.nd rfl (.inl rfl) (pe_op op_add pe_int (pe_can CN (hr.mono (by decide)) (by rfl) (pa_cons (pv 0) (pa_cons (pv 1) pa_nil)))))
      (pss_cons (ps_set (i := 5) scHouse.nd rfl (.inl rfl) (pe_lst pa_nil))
      (pss_cons (ps_for PassesOwn.never rfl (pi_range1 (by rfl) B.range_ (pa_cons (pv 4) pa_nil)) (pg_name (i := 6) scHouse.nd rfl (Or.inl rfl))
        (pss_one (ps_expr (pe_bm PySem.F.plainAttrs_list PySem.F.slot_list_insert PySem.F.type_list_insert mt_insert (pv 5) (pa_cons (pe_can CN (hr.mono (by decide)) (by rfl) (pa_cons (pv 0) (pa_cons (pe_op op_add (pv 6) pe_int) pa_nil))) (pa_cons (pv 6) pa_nil))))))
      (pss_cons (ps_set (i := 7) scHouse.nd rfl (.inl rfl) (pe_lst pa_nil))
      (pss_cons (ps_set (i := 8) scHouse.nd rfl (.inl rfl) (pe_lst (pa_cons pe_int (pa_cons (pe_op op_mul pe_int (pv 3)) pa_nil))))
      (pss_cons (ps_for PassesOwn.never rfl (pi_range2 (by rfl) B.range_ (pa_cons pe_int (pa_cons (pv 4) pa_nil))) (pg_name (i := 9) scHouse.nd rfl (Or.inl rfl))
        (pss_cons (ps_set (i := 10) scHouse.nd rfl (.inl rfl) (pe_callB cr_sorted (by rfl) B.sorted_ boot_sorted (pa_cons (pe_lst (pa_cons (pe_ix ix_list (pv 5) (pe_can CN (hr.mono (by decide)) (by rfl) (pa_cons (pv 0) (pa_cons (pv 9) pa_nil))) (fun _ _ => rfl)) (pa_cons (pe_ix ix_list (pv 5) (pv 9) (fun _ _ => rfl)) pa_nil))) pa_nil)))
        (pss_cons (ps_set (i := 11) scHouse.nd rfl (.inl rfl) (pe_can CP hr (by rfl) (pa_cons (pv 0) (pa_cons (pe_ix ix_list (pv 10) pe_int (fun _ _ => rfl)) (pa_cons (pe_ix ix_list (pv 10) pe_int (fun _ _ => rfl)) (pa_cons (pv 8) (pa_cons (pv 2) pa_nil)))))))
        (pss_one (ps_expr (pe_bm PySem.F.plainAttrs_list PySem.F.slot_list_insert PySem.F.type_list_insert mt_insert (pv 7) (pa_cons (pe_can CN (hr.mono (by decide)) (by rfl) (pa_cons (pv 0) (pa_cons (pv 9) pa_nil))) (pa_cons (pv 11) pa_nil))))))))
      (pss_one (ps_ret (pe_tup (pa_cons (pv 4) (pa_cons (pe_callTy call_tuple_of (by rfl) B.tuple_ boot_tuple (pa_cons (pv 7) pa_nil)) pa_nil)))))))))), ?_⟩
    refine ⟨.ref D, rfl, .int most, rfl, D, C, R, b, most, rfl, m1, by omega, dk, by omega, fun H1 k1 kp1 dk1 a1 a2 => ?_⟩
    refine ⟨1, k1, rfl, rfl, ?_⟩
    have hn1 : 1 ≤ 1 + k1 := by omega
    have hn2 : 1 + k1 ≤ 16 := by omega
    dsimp only
    generalize 1 + k1 = n at hn1 hn2
    refine ⟨show 0 ≤ sizeLine by decide, fun Nn nN => ?_⟩
    have zN := dk1.ne nN
    refine ⟨.int n, rfl, n, rfl, by omega, by omega, for_range (lo := 0) (n := n.toNat)
      (fun i σ G => ∃ s6, σ = [some (.ref D), some (.int most), some (.int far), some (.int flaps), some (.int n), some (.ref Nn), s6, none, none, none, none, none] ∧ Keep [D, R] H1 G ∧ Deck G D C R (b + 1 + i) ∧ ∃ ms : List Int, ms.Perm (start i) ∧ G Nn = some (.lst (ms.map V.int)))
      ⟨none, rfl, Keep.new nN, (dk1.new nN).mono (by omega), [], List.Perm.refl _, upd_same⟩ (fun i σ G hi p => ?_) (fun σ G p => ?_)⟩
    · obtain ⟨s6, rfl, k2, d2, ms, pm, e2⟩ := p
      have l2 : ms.length = i := by rw [pm.length_eq]; unfold start; rw [List.length_map, List.length_range]
      refine ⟨.ref Nn, rfl, .inl ⟨rfl, _, SqL.of e2⟩, .ref D, rfl, .int (0 + (i : Int)), rfl, _, 1, rfl, rfl, D, C, R, _, _, rfl, by omega, by omega, d2, by omega, fun G2 k kp d3 b1 b2 => ?_⟩
      have e3 := kp Nn _ e2 (notDR zN.1 zN.2.2)
      refine ⟨.int (0 + (i : Int)), rfl, Nn, ms.map V.int, k, .int (0 + (i : Int)), rfl, rfl, e3, by rw [List.length_map, l2]; exact small1000 (by omega), b1, by omega, ?_⟩
      refine ⟨some (.int (0 + (i : Int))), rfl, (k2.trans kp).upd nN, (d3.other zN.1 zN.2.1 zN.2.2).mono (by omega), ms.take k.toNat ++ [0 + (i : Int)] ++ ms.drop k.toNat, ?_, ?_⟩
      · refine (ins_perm ms k.toNat _).trans ?_
        rw [Int.zero_add]
        exact (List.Perm.cons _ pm).trans (start_succ i).symm
      · rw [upd_same, List.map_append, List.map_append, List.map_take, List.map_drop]; rfl
    · obtain ⟨s6, rfl, k2, d2, ms, pm0, e2⟩ := p
      have l2 : ms.length = n.toNat := by rw [pm0.length_eq]; unfold start; rw [List.length_map, List.length_range]
      have c2 : ∀ v ∈ ms, 0 ≤ v ∧ v < n := fun v hv => by have := start_mem.mp (pm0.mem_iff.mp hv); omega
      have nd2 : ms.Nodup := pm0.nodup_iff.mpr (start_nodup _)
      refine ⟨show 0 ≤ sizeLine by decide, fun Pp nP => ?_⟩
      have zP := d2.ne nP
      refine ⟨.int flaps, rfl, 6, flaps, rfl, rfl, .inl ⟨by decide, by decide⟩, show 2 ≤ sizeLine by decide, fun L nL => ?_⟩
      have d3 := d2.new (o := .lst []) nP
      have zL := d3.ne nL
      have d4 : Deck (upd (upd G Pp (.lst [])) L (.lst [.int 12, .int (6 * flaps)])) D C R (b + 1 + 16) := (d3.new nL).mono (by omega)
      have nPN : Pp ≠ Nn := (ne_of_none e2 nP).symm
      have e3 : (upd G Pp (.lst [])) Nn = some (.lst (ms.map V.int)) := by rw [upd_ne nPN.symm]; exact e2
      have nLN : L ≠ Nn := (ne_of_none e3 nL).symm
      have nLP : L ≠ Pp := (ne_of_none (upd_same (H := G) (a := Pp) (o := .lst [])) nL).symm
      have k3 : Keep [D, R] H (upd (upd G Pp (.lst [])) L (.lst [.int 12, .int (6 * flaps)])) := kp1.trans (k2.trans ((Keep.new nP).trans (Keep.new nL)))
      have eL3 : (upd (upd G Pp (.lst [])) L (.lst [.int 12, .int (6 * flaps)])) L = some (.lst [.int 12, .int (6 * flaps)]) := upd_same
      have eP3 : (upd (upd G Pp (.lst [])) L (.lst [.int 12, .int (6 * flaps)])) Pp = some (.lst []) := by rw [upd_ne nLP.symm]; exact upd_same
      have eN3 : (upd (upd G Pp (.lst [])) L (.lst [.int 12, .int (6 * flaps)])) Nn = some (.lst (ms.map V.int)) := by rw [upd_ne nLN.symm]; exact e3
      have tr3 : Tr (L :: Nn :: Pp :: av) (upd (upd G Pp (.lst [])) L (.lst [.int 12, .int (6 * flaps)])) := (((tr.keep k3 d4).cons eP3).cons eN3).cons eL3
      have fN : H Nn = none := kp1.free dk1 nN
      have fP : H Pp = none := (kp1.trans k2).free d2 nP
      have fL : H L = none := by
        have z : Keep [D, R] H (upd G Pp (.lst [])) := kp1.trans (k2.trans (Keep.new nP))
        exact z.free d3 nL
      have t6 : (6 * flaps : Int) ≤ 100 := by omega
      have t7 : (0 : Int) ≤ 6 * flaps := by omega
      have t9 : 6 * flaps ≤ 6 := by omega
      dsimp only
      generalize hG0 : upd (upd G Pp (.lst [])) L (.lst [.int 12, .int (6 * flaps)]) = G0 at *
      generalize 6 * flaps = fm at *
      refine ⟨.int n, rfl, 1, n, rfl, ⟨by decide, by decide, by omega, by omega⟩, for_range (lo := 1) (n := (n - 1).toNat)
        (fun i σ J => ∃ s9 s10 s11, σ = [some (.ref D), some (.int most), some (.int far), some (.int flaps), some (.int n), some (.ref Nn), s6, some (.ref Pp), some (.ref L), s9, s10, s11] ∧
          Keep [D, R] H J ∧ Deck J D C R (b + 17 + 62 * i) ∧ J Nn = some (.lst (ms.map V.int)) ∧ Tr (L :: Nn :: Pp :: av) J ∧ ∃ (ps : List Pi) (us : List V), (∃ l0 l1 : Int, J L = some (.lst [.int l0, .int l1]) ∧ 0 ≤ l0 ∧ 0 ≤ l1 ∧ l0 + ((ps.map fun p => p.na.length).sum : Nat) = 12 ∧ l1 + ((ps.map fun p => p.fl.length).sum : Nat) = fm) ∧ (∀ S : Nat → Bool, (∀ p ∈ ps, S p.x.toNat = S p.y.toNat) → ∀ j : Nat, j ≤ i → S (grp ms j).toNat = S (grp ms 0).toNat) ∧ ps.length = i ∧ (∀ p ∈ ps, p.ok n) ∧ J Pp = some (.lst us) ∧ Dts (L :: Nn :: Pp :: av) J us (ps.map Pi.dat))
        ⟨none, none, none, rfl, k3, d4.mono (by omega), eN3, tr3, [], [], ⟨12, fm, eL3, by decide, t7, by decide, by show fm + 0 = fm; omega⟩, fun S _ j hj => by rw [show j = 0 by omega], rfl, fun _ z => absurd z List.not_mem_nil, eP3, .nil⟩ (fun i σ J hi p => ?_) (fun σ J p => ?_)⟩
      · obtain ⟨s9, s10, s11, rfl, k4, d4, eN, tr4, ps, us, ⟨l0, l1, eL, p0, p1, p2, p3⟩, hcon, lps, okp, eP, dts⟩ := p
        have msl : ms.length = n.toNat := l2
        refine ⟨.ref Nn, rfl, .ref D, rfl, .int (1 + (i : Int)), rfl, D, C, R, _, _, rfl, by omega, by omega, d4, by omega, fun J2 k kp d5 b1 b2 => ?_⟩
        have eN2 := kp Nn _ eN (notDR zN.1 zN.2.2)
        have q1 : (ms.map V.int)[k.toNat]? = some (.int (ms[k.toNat]'(by omega))) := by
          rw [List.getElem?_map, List.getElem?_eq_getElem (by omega)]; rfl
        have q2 : (ms.map V.int)[(1 + (i : Int)).toNat]? = some (.int (ms[(1 + (i : Int)).toNat]'(by omega))) := by
          rw [List.getElem?_map, List.getElem?_eq_getElem (by omega)]; rfl
        refine ⟨Nn, _, k, _, rfl, rfl, SqL.of eN2, atI_of b1 q1, .ref Nn, rfl, .int (1 + (i : Int)), rfl, Nn, _, _, _, rfl, rfl, SqL.of eN2, atI_of (by omega) q2, show 2 ≤ sizeLine by decide, fun a6 n6 => ?_⟩
        have cu := c2 _ (List.getElem_mem (l := ms) (n := k.toNat) (by omega))
        have cv := c2 _ (List.getElem_mem (l := ms) (n := (1 + (i : Int)).toNat) (by omega))
        have guv : grp ms k.toNat = ms[k.toNat]'(by omega) := by unfold grp; rw [List.getD_eq_getElem?_getD, List.getElem?_eq_getElem (by omega)]; rfl
        have gvv : grp ms (i + 1) = ms[(1 + (i : Int)).toNat]'(by omega) := by
          have ez : (1 + (i : Int)).toNat = i + 1 := by omega
          unfold grp; rw [List.getD_eq_getElem?_getD, ← ez, List.getElem?_eq_getElem (by omega)]; rfl
        have nuv : ms[k.toNat]'(by omega) ≠ ms[(1 + (i : Int)).toNat]'(by omega) := (List.pairwise_iff_getElem.mp nd2) k.toNat (1 + (i : Int)).toNat (by omega) (by omega) (by omega)
        have kle : k.toNat ≤ i := by omega
        generalize ms[k.toNat]'(by omega) = u at cu guv nuv
        generalize ms[(1 + (i : Int)).toNat]'(by omega) = v at cv gvv nuv
        refine ⟨a6, [u, v], rfl, SqL.of upd_same, show 2 < 64 by decide, fun ns a7 pm pw n7 => ?_⟩
        obtain ⟨x, y, rfl, hx, hy, hxy, hS⟩ : ∃ x y, ns = [x, y] ∧ (0 ≤ x ∧ x < n) ∧ (0 ≤ y ∧ y < n) ∧ x < y ∧ ∀ S : Nat → Bool, S x.toNat = S y.toNat → S u.toNat = S v.toNat := by
          rcases perm2 pm with e | e
          · have le : u ≤ v := by rw [e] at pw; simpa using pw
            exact ⟨u, v, e, cu, cv, by omega, fun S h => h⟩
          · have le : v ≤ u := by rw [e] at pw; simpa using pw
            exact ⟨v, u, e, cv, cu, by omega, fun S h => h.symm⟩
        have k5 : Keep [D, R] J (upd (upd J2 a6 (.lst [.int u, .int v])) a7 (.lst [.int x, .int y])) := kp.trans ((Keep.new n6).trans (Keep.new n7))
        have d6 : Deck (upd (upd J2 a6 (.lst [.int u, .int v])) a7 (.lst [.int x, .int y])) D C R (b + 17 + 62 * i + 1) := (d5.new n6).new n7
        have e7 : (upd (upd J2 a6 (.lst [.int u, .int v])) a7 (.lst [.int x, .int y])) a7 = some (.lst [.int x, .int y]) := upd_same
        show (_ : Prop)
        have hJ3 : upd (upd J2 a6 (.lst [.int u, .int v])) a7 (.lst ([x, y].map V.int)) = upd (upd J2 a6 (.lst [.int u, .int v])) a7 (.lst [.int x, .int y]) := rfl
        rw [hJ3]
        generalize upd (upd J2 a6 (.lst [.int u, .int v])) a7 (.lst [.int x, .int y]) = J3 at k5 d6 e7 ⊢
        have eL3 := k5 L _ eL (notDR zL.1 zL.2.2)
        have tr5 := tr4.keep k5 d6
        refine ⟨.ref D, rfl, .ref a7, rfl, a7, _, 0, .int x, rfl, rfl, SqL.of e7, atI_nat (j := 0) rfl, .ref a7, rfl, a7, _, 1, .int y, rfl, rfl, SqL.of e7, atI_nat (j := 1) rfl, .ref L, rfl, .int far, rfl,
          D, C, R, L, _, x, y, l0, l1, far, L :: Nn :: Pp :: av, rfl, eL3, p0, p1, by omega, by omega, zL.1, zL.2.1, zL.2.2, hf, d6, by omega, tr5, by simp [mD], by simp [mR], by simp, fun J4 pa l na fl k6 d7 eL4 g1 g2 fit dp tr6 => ?_⟩
        have sub : ∀ z ∈ [D, R, L], z ∈ L :: Nn :: Pp :: av := by
          intro z hz
          simp only [List.mem_cons, List.not_mem_nil, or_false] at hz ⊢
          rcases hz with hz | hz | hz
          · subst hz; simp [mD]
          · subst hz; simp [mR]
          · subst hz; simp
        have sub2 : ∀ z ∈ [D, R], z ∈ L :: Nn :: Pp :: av := by
          intro z hz
          exact sub z (by simp only [List.mem_cons, List.not_mem_nil, or_false] at hz ⊢; rcases hz with hz | hz <;> simp [hz])
        have dts3 := (dts.keep (k5.mono sub2)).keep (k6.mono sub)
        have not3 : ∀ {z : Addr}, z ≠ D → z ≠ R → z ≠ L → z ∉ [D, R, L] := fun {z} h1 h2 h3 m => by
          simp only [List.mem_cons, List.not_mem_nil, or_false] at m
          rcases m with m | m | m
          · exact h1 m
          · exact h2 m
          · exact h3 m
        have eP4 := k6 Pp _ (k5 Pp _ eP (notDR zP.1 zP.2.2)) (not3 zP.1 zP.2.2 nLP.symm)
        have eN4 := k6 Nn _ (k5 Nn _ eN (notDR zN.1 zN.2.2)) (not3 zN.1 zN.2.2 nLN.symm)
        refine ⟨.ref Pp, rfl, .inl ⟨rfl, _, SqL.of eP4⟩, .ref D, rfl, .int (1 + (i : Int)), rfl, D, C, R, _, _, rfl, by omega, by omega, d7, by omega, fun J5 k' kp' d8 b3 b4 => ?_⟩
        have eP5 := kp' Pp _ eP4 (notDR zP.1 zP.2.2)
        have ul : us.length = i := by rw [dts.len, List.length_map, lps]
        refine ⟨.ref pa, rfl, Pp, us, k', .ref pa, rfl, rfl, eP5, by rw [ul]; exact small1000 (by omega), b3, by omega, ?_⟩
        have k7 : Keep [D, R] J3 J5 → True := fun _ => trivial
        have dts5 := dts3.keep (kp'.mono sub2)
        have dp5 := dp.keep (kp'.mono sub2)
        have kH : Keep [D, R] H J5 := by
          intro z o ez nz
          have z1 := k5 z o (k4 z o ez nz) nz
          have zl : z ≠ L := ne_of_none ez fL
          have z2 := k6 z o z1 (by
            intro m
            simp only [List.mem_cons, List.not_mem_nil, or_false] at m nz
            rcases m with m | m | m
            · exact nz (.inl m)
            · exact nz (.inr m)
            · exact zl m)
          exact kp' z o z2 nz
        refine ⟨_, _, _, rfl, kH.upd fP, (d8.other zP.1 zP.2.1 zP.2.2).mono (by omega), ?_, (tr6.keep kp' d8).upd, ps.take k'.toNat ++ [⟨x, y, l, na, fl⟩] ++ ps.drop k'.toNat, us.take k'.toNat ++ [.ref pa] ++ us.drop k'.toNat, ⟨l0 - na.length, l1 - fl.length, ?_, by omega, by omega, by rw [ins_sum]; show l0 - (na.length : Int) + ((na.length + _ : Nat) : Int) = 12; omega, by rw [ins_sum]; show l1 - (fl.length : Int) + ((fl.length + _ : Nat) : Int) = fm; omega⟩, ?_, ?_, ?_, upd_same, ?_⟩
        · rw [upd_ne nPN.symm]; exact kp' Nn _ eN4 (notDR zN.1 zN.2.2)
        · rw [upd_ne nLP]; exact kp' L _ eL4 (notDR zL.1 zL.2.2)
        · intro S h j hj
          have ip := ins_perm ps k'.toNat (⟨x, y, l, na, fl⟩ : Pi)
          have h1 := hS S (h ⟨x, y, l, na, fl⟩ (ip.mem_iff.mpr List.mem_cons_self))
          have h2 := hcon S fun p m => h p (ip.mem_iff.mpr (List.mem_cons_of_mem _ m))
          by_cases hj' : j ≤ i
          · exact h2 j hj'
          · rw [show j = i + 1 by omega, gvv, ← h1, ← guv]
            exact h2 _ kle
        · rw [List.length_append, List.length_append, List.length_take, List.length_drop, List.length_singleton]; omega
        · intro z hz
          rcases List.mem_append.mp hz with hz | hz
          · rcases List.mem_append.mp hz with hz | hz
            · exact okp z (List.mem_of_mem_take hz)
            · rw [List.mem_singleton.mp hz]
              exact ⟨hx.1, by show x ≤ n - 1; omega, hy.1, by show y ≤ n - 1; omega, hxy, fit⟩
          · exact okp z (List.mem_of_mem_drop hz)
        · rw [List.map_append, List.map_append, List.map_take, List.map_drop]
          exact (((dts5.take _).app (.cons dp5 .nil)).app (dts5.drop _)).keep (Keep.put (by simp))
      · obtain ⟨s9, s10, s11, rfl, k4, d4, eN, tr4, ps, us, ⟨l0, l1, eL, p0, p1, p2, p3⟩, hcon, lps, okp, eP, dts⟩ := p
        refine ⟨.int n, rfl, .ref Pp, rfl, Pp, us, rfl, .inl ⟨SqL.of eP, fun T nT => ?_⟩⟩
        refine ⟨show 2 ≤ sizeLine by decide, fun p np => ?_⟩
        have tav : Tr av J := fun a m => tr4 a (by simp [m])
        have dT : Dt av (upd J T (.tup us)) (.ref T) (.tuple (ps.map Pi.dat)) := .tup (tav.not nT) upd_same ((dts.keep (Keep.new nT)).less fun a m => by simp [m])
        refine q _ p n ps (k4.trans ((Keep.new nT).trans (Keep.new np))) (((d4.new nT).new np).mono (by omega)) hn1 hn2 (by omega) okp ?_ (by omega) (by omega) ?_ (tav.upd).upd
        · intro S hE a ha
          have h2 := hcon S fun p m => hE (p.x.toNat, p.y.toNat) (List.mem_map.mpr ⟨p, m, rfl⟩)
          have at_ : ∀ c : Nat, c < n.toNat → S c = S (grp ms 0).toNat := fun c hc => by
            obtain ⟨j, hj, e⟩ := mem_grp (pm0.mem_iff.mpr (start_mem.mpr ⟨Int.natCast_nonneg c, by omega⟩ : (c : Int) ∈ start n.toNat))
            have z := h2 j (by omega)
            rw [e] at z
            exact z
          rw [at_ a ha, at_ 0 (by omega)]
        exact .tup ((tav.upd).not np) upd_same (.cons (.int n) (.cons (dT.keep (Keep.new np)) .nil))
end
end Rw

namespace Rw
open PySem PySem.Spec PyProof.Rows L2
/-! ### how long data is when it is shown -/
mutual
def cnt : PyData → Nat
  | .none => 1
  | .bool _ => 1
  | .int _ => 1
  | .str _ => 1
  | .dict _ => 1
  | .list xs => 1 + cnts xs
  | .tuple xs => 1 + cnts xs
def cnts : List PyData → Nat
  | [] => 0
  | x :: xs => cnt x + cnts xs
end
mutual
def leafy (M : Nat) : PyData → Prop
  | .none => True
  | .bool _ => True
  | .int i => i.natAbs ≤ M
  | .str x => (reprText x).length ≤ 2000
  | .dict kvs => kvs = []
  | .list xs => leafys M xs
  | .tuple xs => leafys M xs
def leafys (M : Nat) : List PyData → Prop
  | [] => True
  | x :: xs => leafy M x ∧ leafys M xs
end
structure Sm (M m n : Nat) (d : PyData) : Prop where
  lf : leafy M d
  dp : d.depth ≤ m
  ct : cnt d ≤ n
structure Sms (M m n : Nat) (ds : List PyData) : Prop where
  lf : leafys M ds
  dp : PyData.depthAll ds ≤ m
  ct : cnts ds ≤ n
abbrev big : Nat := 10 ^ 39 + 100000
theorem log2_big {i : Int} (h : i.natAbs ≤ big) : i.natAbs.log2 < 1920 := by
  by_cases h0 : i.natAbs = 0
  · rw [h0]; decide
  · rw [Nat.log2_lt h0]
    exact Nat.lt_of_lt_of_le (Nat.lt_of_le_of_lt h (show big < 2 ^ 200 by decide)) (Nat.pow_le_pow_right (by decide) (by decide))
mutual
theorem show_ok {M : Nat} (hM : M ≤ big) : ∀ d : PyData, leafy M d → d.showable = true
  | .none, _ => by simp only [PyData.showable]
  | .bool _, _ => by simp only [PyData.showable]
  | .int i, h => by
    simp only [leafy] at h
    simp only [PyData.showable, decide_eq_true_eq]
    exact log2_big (Nat.le_trans h hM)
  | .str _, _ => by simp only [PyData.showable]
  | .dict kvs, h => by
    simp only [leafy] at h
    subst h
    simp only [PyData.showable, PyData.showableKv]
  | .list xs, h => by
    simp only [leafy] at h
    simp only [PyData.showable]
    exact shows_ok hM xs h
  | .tuple xs, h => by
    simp only [leafy] at h
    simp only [PyData.showable]
    exact shows_ok hM xs h
theorem shows_ok {M : Nat} (hM : M ≤ big) : ∀ ds : List PyData, leafys M ds → PyData.showableAll ds = true
  | [], _ => by simp only [PyData.showableAll]
  | d :: ds, h => by
    simp only [leafys] at h
    simp only [PyData.showableAll, Bool.and_eq_true]
    exact ⟨show_ok hM d h.1, shows_ok hM ds h.2⟩
end
theorem int_len {i : Int} (h : i.natAbs ≤ big) : (Str.ofString (toString i)).length ≤ 41 := by
  rw [PySem.ofString_length]
  exact int_text_length_le10 (k := 40) (by decide) (Nat.lt_of_le_of_lt h (by decide))
mutual
theorem show_le {M : Nat} (hM : M ≤ big) : ∀ d : PyData, leafy M d → d.shown.length + 10 ≤ 2020 * cnt d
  | .none, _ => by
    have e : (PyData.shown .none).length = 4 := rfl
    simp only [cnt]; omega
  | .bool b, _ => by
    have e : (PyData.shown (.bool b)).length ≤ 5 := by cases b <;> decide
    simp only [cnt]; omega
  | .int i, h => by
    simp only [leafy] at h
    have e : (PyData.shown (.int i)).length ≤ 41 := int_len (Nat.le_trans h hM)
    simp only [cnt]; omega
  | .str x, h => by
    simp only [leafy] at h
    simp only [cnt, PyData.shown]; omega
  | .dict kvs, h => by
    simp only [leafy] at h
    subst h
    have e : (PyData.shown (.dict [])).length ≤ 3 := by
      simp only [PyData.shown, PyData.shownKv]
      exact dictText_len_le []
    simp only [cnt]; omega
  | .list xs, h => by
    simp only [leafy] at h
    have h1 := shows_le hM xs h
    have h2 := listText_len_le (PyData.shownAll xs)
    have h3 := PyData.shownAll_length xs
    simp only [PyData.shown, cnt]
    omega
  | .tuple xs, h => by
    simp only [leafy] at h
    have h1 := shows_le hM xs h
    have h2 := tupleText_len_le (PyData.shownAll xs)
    have h3 := PyData.shownAll_length xs
    simp only [PyData.shown, cnt]
    omega
theorem shows_le {M : Nat} (hM : M ≤ big) : ∀ ds : List PyData, leafys M ds → ((PyData.shownAll ds).map (·.length)).sum + 10 * ds.length ≤ 2020 * cnts ds
  | [], _ => by simp only [PyData.shownAll, cnts, List.map_nil, List.sum_nil, List.length_nil]; omega
  | d :: ds, h => by
    simp only [leafys] at h
    have h1 := show_le hM d h.1
    have h2 := shows_le hM ds h.2
    simp only [PyData.shownAll, cnts, List.map_cons, List.sum_cons, List.length_cons]
    omega
end
theorem reprs_int {i : Int} (h : i.natAbs ≤ big) : (reprText (Str.ofString (toString i))).length ≤ 2000 := by
  have hx : ∀ c ∈ (Str.ofString (toString i)).cps.toList, c < 16 ^ 8 := by
    rw [Str.ofString_eq_toList]
    intro c hc
    have hc' : c ∈ ((toString i).toList.map Char.toNat) := hc
    obtain ⟨ch, _, rfl⟩ := List.mem_map.mp hc'
    have := ch.valid
    have h2 : ch.toNat < 1114112 := by
      show ch.val.toNat < 1114112
      rcases this with z | z
      · exact Nat.lt_trans (show ch.val.toNat < 0xd800 from z) (by decide)
      · exact z.2
    omega
  have := StrLaws.reprText_len _ hx
  have := int_len h
  omega
/-! lists of data -/
theorem leafys_app {M : Nat} : ∀ {xs ys : List PyData}, leafys M (xs ++ ys) ↔ leafys M xs ∧ leafys M ys
  | [], ys => by simp [leafys]
  | x :: xs, ys => by
    rw [List.cons_append]
    simp only [leafys]
    rw [leafys_app (xs := xs)]
    exact and_assoc.symm
theorem cnts_app : ∀ xs ys : List PyData, cnts (xs ++ ys) = cnts xs + cnts ys
  | [], ys => by simp [cnts]
  | x :: xs, ys => by rw [List.cons_append]; simp only [cnts]; rw [cnts_app xs ys]; omega
theorem depth_app : ∀ xs ys : List PyData, PyData.depthAll (xs ++ ys) = max (PyData.depthAll xs) (PyData.depthAll ys)
  | [], ys => by simp [PyData.depthAll]
  | x :: xs, ys => by rw [List.cons_append]; simp only [PyData.depthAll]; rw [depth_app xs ys]; omega
theorem leafys_mem {M : Nat} : ∀ {xs : List PyData} {d : PyData}, leafys M xs → d ∈ xs → leafy M d
  | x :: xs, d, h, m => by
    simp only [leafys] at h
    rcases List.mem_cons.mp m with m | m
    · rw [m]; exact h.1
    · exact leafys_mem h.2 m
theorem cnts_mem : ∀ {xs : List PyData} {d : PyData}, d ∈ xs → cnt d ≤ cnts xs
  | x :: xs, d, m => by
    simp only [cnts]
    rcases List.mem_cons.mp m with m | m
    · rw [m]; omega
    · have := cnts_mem m; omega
theorem depth_mem : ∀ {xs : List PyData} {d : PyData}, d ∈ xs → d.depth ≤ PyData.depthAll xs
  | x :: xs, d, m => by
    simp only [PyData.depthAll]
    rcases List.mem_cons.mp m with m | m
    · rw [m]; omega
    · have := depth_mem m; omega
theorem cnt_pos : ∀ d : PyData, 1 ≤ cnt d
  | .none => by simp only [cnt]; omega
  | .bool _ => by simp only [cnt]; omega
  | .int _ => by simp only [cnt]; omega
  | .str _ => by simp only [cnt]; omega
  | .dict _ => by simp only [cnt]; omega
  | .list _ => by simp only [cnt]; omega
  | .tuple _ => by simp only [cnt]; omega
mutual
theorem leafy_mono {M N : Nat} (h : M ≤ N) : ∀ d : PyData, leafy M d → leafy N d
  | .none, _ => by simp only [leafy]
  | .bool _, _ => by simp only [leafy]
  | .int i, z => by simp only [leafy] at z ⊢; omega
  | .str _, z => by simp only [leafy] at z ⊢; exact z
  | .dict _, z => by simp only [leafy] at z ⊢; exact z
  | .list xs, z => by simp only [leafy] at z ⊢; exact leafys_mono h xs z
  | .tuple xs, z => by simp only [leafy] at z ⊢; exact leafys_mono h xs z
theorem leafys_mono {M N : Nat} (h : M ≤ N) : ∀ ds : List PyData, leafys M ds → leafys N ds
  | [], _ => by simp only [leafys]
  | d :: ds, z => by simp only [leafys] at z ⊢; exact ⟨leafy_mono h d z.1, leafys_mono h ds z.2⟩
end
theorem Sm.mono {M m n M' m' n' : Nat} {d : PyData} (x : Sm M m n d) (h1 : M ≤ M') (h2 : m ≤ m') (h3 : n ≤ n') : Sm M' m' n' d :=
  ⟨leafy_mono h1 d x.lf, Nat.le_trans x.dp h2, Nat.le_trans x.ct h3⟩
/-! a drawn house is small -/
theorem pr_leafy {M : Nat} : ∀ na : List (Int × Int), (∀ p ∈ na, p.1.natAbs ≤ M ∧ p.2.natAbs ≤ M) → leafys M (na.map prD) ∧ cnts (na.map prD) = 3 * na.length ∧ PyData.depthAll (na.map prD) ≤ 1
  | [], _ => by simp [leafys, cnts, PyData.depthAll]
  | p :: na, h => by
    obtain ⟨h1, h2, h3⟩ := pr_leafy na fun q m => h q (List.mem_cons_of_mem _ m)
    have h4 := h p List.mem_cons_self
    have e : prD p = .tuple [.int p.1, .int p.2] := rfl
    rw [List.map_cons, e]
    simp only [leafys, cnts, PyData.depthAll, leafy, cnt, PyData.depth, List.length_cons]
    exact ⟨⟨⟨h4.1, h4.2, trivial⟩, h1⟩, by omega, by omega⟩
theorem pi_small {n : Int} (hn : n ≤ 16) {p : Pi} (h : p.ok n) : Sm (10 ^ 12) 3 30 p.dat := by
  obtain ⟨x0, x1, y0, y1, xy, ⟨l1, l2, _, nin, _, fin, nle, fle⟩⟩ := h
  obtain ⟨a1, a2, a3⟩ := pr_leafy (M := 10 ^ 12) p.na fun q m => by
    have := nin q m
    omega
  obtain ⟨b1, b2, b3⟩ := pr_leafy (M := 10 ^ 12) p.fl fun q m => by
    have := fin q m
    omega
  have e : p.dat = .tuple [.int p.x, .int p.y, .int p.l, .tuple (p.na.map prD), .tuple (p.fl.map prD)] := rfl
  rw [e]
  refine ⟨?_, ?_, ?_⟩
  · simp only [leafy, leafys]
    exact ⟨by omega, by omega, by omega, a1, b1, trivial⟩
  · simp only [PyData.depth, PyData.depthAll]; omega
  · simp only [cnt, cnts]; omega
theorem pis_small {n : Int} (hn : n ≤ 16) : ∀ ps : List Pi, (∀ p ∈ ps, p.ok n) → leafys (10 ^ 12) (ps.map Pi.dat) ∧ PyData.depthAll (ps.map Pi.dat) ≤ 3 ∧ cnts (ps.map Pi.dat) ≤ 30 * ps.length
  | [], _ => by simp [leafys, cnts, PyData.depthAll]
  | p :: ps, h => by
    obtain ⟨h1, h2, h3⟩ := pis_small hn ps fun q m => h q (List.mem_cons_of_mem _ m)
    have h4 := pi_small hn (h p List.mem_cons_self)
    simp only [List.map_cons, leafys, cnts, PyData.depthAll, List.length_cons]
    exact ⟨⟨h4.lf, h1⟩, by have := h4.dp; omega, by have := h4.ct; omega⟩
theorem house_small {n : Int} (h0 : 1 ≤ n) (hn : n ≤ 16) {ps : List Pi} (hl : (ps.length : Int) = n - 1) (h : ∀ p ∈ ps, p.ok n) : Sm (10 ^ 12) 5 500 (houseD n (ps.map Pi.dat)) := by
  obtain ⟨h1, h2, h3⟩ := pis_small hn ps h
  refine ⟨?_, ?_, ?_⟩
  · simp only [houseD, leafy, leafys]
    exact ⟨by omega, h1, trivial⟩
  · simp only [houseD, PyData.depth, PyData.depthAll]; omega
  · simp only [houseD, cnt, cnts]; omega
theorem house_pipes {ps : List Pi} : PipesOk (ps.map Pi.dat) := fun q m => by
  obtain ⟨p, _, rfl⟩ := List.mem_map.mp m
  exact ⟨_, _, _, _, rfl⟩
end Rw

namespace Rw
open PySem PySem.Spec PyProof.Rows L2
mutual
theorem Dt.dp {K : PySem.W.Frag} {av : List Addr} {H : Hp} : ∀ (d : PyData) (v : V), Dt av H v d → d.canLay0 = true → Dp K H v d
  | _, _, .non, _ => .non
  | _, _, .bl b, _ => .bl b
  | _, _, .int i, _ => .int i
  | _, _, .str x, _ => .str x
  | .list ds, _, .lst n _ e s, h => .lst (SqL.of e) (Dts.dp ds _ s (by simpa only [PyData.canLay0] using h))
  | .tuple ds, _, .tup n e s, h => .tup (SqT.of e) (Dts.dp ds _ s (by simpa only [PyData.canLay0] using h))
  | .dict _, _, .dct n e, h => by simp only [PyData.canLay0] at h; cases h
theorem Dts.dp {K : PySem.W.Frag} {av : List Addr} {H : Hp} : ∀ (ds : List PyData) (vs : List V), Dts av H vs ds → PyData.canLayAll0 ds = true → DpAll K H vs ds
  | [], _, .nil, _ => .nil
  | d :: ds, _, .cons x t, h => by
    simp only [PyData.canLayAll0, Bool.and_eq_true] at h
    exact .cons (Dt.dp d _ x h.1) (Dts.dp ds _ t h.2)
end
theorem lay_prs : ∀ na : List (Int × Int), PyData.canLayAll0 (na.map prD) = true
  | [] => by simp [PyData.canLayAll0]
  | p :: na => by
    have e : prD p = .tuple [.int p.1, .int p.2] := rfl
    rw [List.map_cons, e]
    simp only [PyData.canLayAll0, PyData.canLay0, lay_prs na, Bool.and_true]
theorem lay_pis : ∀ ps : List Pi, PyData.canLayAll0 (ps.map Pi.dat) = true
  | [] => by simp [PyData.canLayAll0]
  | p :: ps => by
    have e : p.dat = .tuple [.int p.x, .int p.y, .int p.l, .tuple (p.na.map prD), .tuple (p.fl.map prD)] := rfl
    rw [List.map_cons, e]
    simp only [PyData.canLayAll0, PyData.canLay0, lay_prs, lay_pis ps, Bool.and_true]
theorem shaped_of {d : PyData} (h : d.canLay0 = true) (h2 : d.depth ≤ 64) : SeqAt.shaped d = true := by
  unfold SeqAt.shaped
  rw [h, decide_eq_true h2]; rfl
theorem eqv_nil (ds : List PyData) : PyData.eqv (.tuple ds) (.tuple []) = ds.isEmpty := by
  cases ds <;> rfl
/-! ### a house as it is handed about: its two parts -/
theorem house_parts {av : List Addr} {H : Hp} {h : V} {n : Int} {ps : List PyData} (x : Dt av H h (houseD n ps)) :
    ∃ (ah ap : Addr) (xp : List V), h = .ref ah ∧ ah ∉ av ∧ H ah = some (.tup [.int n, .ref ap]) ∧ ap ∉ av ∧ H ap = some (.tup xp) ∧ Dts av H xp ps := by
  cases x with
  | tup na ea da =>
    cases da with
    | cons d1 da =>
      cases d1
      cases da with
      | cons d2 da =>
        cases da
        cases d2 with
        | tup nb eb db => exact ⟨_, _, _, rfl, na, ea, nb, eb, db⟩
/-! the pipe at a place -/
theorem pi_at {av : List Addr} {H : Hp} {xp : List V} {ps : List Pi} (hs : Dts av H xp (ps.map Pi.dat)) {i : Int} (h0 : 0 ≤ i) (h1 : i < ps.length) :
    ∃ (p : Pi) (pa T1 T2 : Addr), p ∈ ps ∧ ps[i.toNat]? = some p ∧ atI xp i = some (.ref pa) ∧ H pa = some (.tup [.int p.x, .int p.y, .int p.l, .ref T1, .ref T2]) := by
  have e : ps[i.toNat]? = some (ps[i.toNat]'(by omega)) := List.getElem?_eq_getElem (by omega)
  obtain ⟨v, ev, dv⟩ := hs.get i.toNat (d := (ps[i.toNat]'(by omega)).dat) (by rw [List.getElem?_map, e]; rfl)
  have ep : (ps[i.toNat]'(by omega)).dat = .tuple [.int (ps[i.toNat]'(by omega)).x, .int (ps[i.toNat]'(by omega)).y, .int (ps[i.toNat]'(by omega)).l, .tuple ((ps[i.toNat]'(by omega)).na.map prD), .tuple ((ps[i.toNat]'(by omega)).fl.map prD)] := rfl
  rw [ep] at dv
  cases dv with
  | tup na ea da =>
    cases da with
    | cons d1 da => cases d1; cases da with
      | cons d2 da => cases d2; cases da with
        | cons d3 da => cases d3; cases da with
          | cons d4 da => cases d4 with
            | tup _ _ _ => cases da with
              | cons d5 da => cases d5 with
                | tup _ _ _ =>
                  cases da
                  exact ⟨_, _, _, _, List.getElem_mem _, e, atI_of h0 ev, ea⟩
end Rw

namespace Rw
open PySem PySem.Spec PyProof.Rows L2
/-! one more thing is made -/
theorem Dt.newT {av : List Addr} {H : Hp} {p : Addr} {xs : List V} {ds : List PyData} (t : Tr av H) (n : H p = none) (x : Dts av H xs ds) : Dt av (upd H p (.tup xs)) (.ref p) (.tuple ds) := .tup (t.not n) upd_same (x.keep (Keep.new n))
theorem Dt.newL {av : List Addr} {H : Hp} {p : Addr} {xs : List V} {ds : List PyData} (t : Tr av H) (n : H p = none) (m : p ≠ sysModules) (x : Dts av H xs ds) : Dt av (upd H p (.lst xs)) (.ref p) (.list ds) := .lst (t.not n) m upd_same (x.keep (Keep.new n))
theorem Dt.newD {av : List Addr} {H : Hp} {p : Addr} (t : Tr av H) (n : H p = none) : Dt av (upd H p (.dK [])) (.ref p) (.dict []) := .dct (t.not n) upd_same
theorem Dt.kn {av : List Addr} {H : Hp} {p : Addr} {o : HO} {v : V} {d : PyData} (n : H p = none) (x : Dt av H v d) : Dt av (upd H p o) v d := x.keep (Keep.new n)
theorem Dts.kn {av : List Addr} {H : Hp} {p : Addr} {o : HO} {v : List V} {d : List PyData} (n : H p = none) (x : Dts av H v d) : Dts av (upd H p o) v d := x.keep (Keep.new n)
abbrev oddD : List PyData := [.none, .bool true, .bool false, .int (-1), .int 0, .int 1, .int (10 ^ 39), .str "", .str "0", .tuple [], .list [], .dict [], .tuple [.int 0], .list [.int 0], .tuple [.tuple []], .tuple [.int 0, .int 0, .int 0],
  .tuple [.int 0, .int 1, .int 2, .tuple [], .tuple []]]
theorem odd_small : ∀ d ∈ oddD, Sm (10 ^ 39) 2 10 d := by
  intro d hd
  have z0 : (reprText "").length ≤ 2000 := by decide +kernel
  have z1 : (reprText "0").length ≤ 2000 := by decide +kernel
  simp only [oddD, List.mem_cons, List.not_mem_nil, or_false] at hd
  rcases hd with h | h | h | h | h | h | h | h | h | h | h | h | h | h | h | h | h <;> subst h <;> refine ⟨?_, ?_, ?_⟩ <;> simp only [leafy, leafys, cnt, cnts, PyData.depth, PyData.depthAll, PyData.depthKv] <;> first | trivial | decide | exact z0 | exact z1 | omega
section
variable {P : Program} {w : World} {K : PySem.W.Frag} {mg : Str → Option Value} {base : Heap}
abbrev sOdd : Stmt := topS 35
theorem scOdd : FnScope ["_law_deck_here", "_law_some"] ["_law_deck_here"] (defScope sOdd) := ⟨rfl, rfl, rfl, by decide +kernel, rfl, by decide +kernel, by decide +kernel⟩
def spOdd : Sp := fun vs H Q _ => ∃ (D C R : Addr) (b : Int) (av : List Addr), vs = [.ref D] ∧ Deck H D C R b ∧ b ≤ 800000000 ∧ Tr av H ∧ D ∈ av ∧ R ∈ av ∧
  ∀ H' (x : V) (d : PyData), Keep [D, R] H H' → Deck H' D C R (b + 1) → Dt av H' x d → Sm (10 ^ 39) 2 10 d → Tr av H' → Q x H'
theorem ok_odd (h : Has K mg "_law_odd" sOdd) (CN : Can P w K mg base "_law_next" ["_law_deck_here", "_law_many"] 1 spNext) : Can P w K mg base "_law_odd" ["_law_deck_here"] 2 spOdd := by
  obtain ⟨f, fd, F, g⟩ := h
  refine ⟨f, fd, F.ok (k := 1) scOdd (fun vs H Q E h => ?_) (fun cdv A outer s H vs Q E hr h => ?_), g, F.kp, F.binds fun _ _ _ _ _ _ us hl => match us, hl with | [_], _ => rfl⟩
  · obtain ⟨D, C, R, b, av, rfl, _⟩ := h
    rfl
  · obtain ⟨D, C, R, b, av, rfl, dk, hb, tr, mD, mR, q⟩ := h
    refine ⟨_, pss_cons (ps_set (i := 1) scOdd.nd rfl (.inl rfl) (pe_lst (pa_cons pe_non (pa_cons pe_bl (pa_cons pe_bl (pa_cons (pe_un un_neg pe_int) (pa_cons pe_int (pa_cons pe_int (pa_cons (pe_op op_pow pe_int pe_int) (pa_cons pe_str (pa_cons pe_str
        (pa_cons (pe_tup pa_nil) (pa_cons (pe_lstN pa_nil) (pa_cons pe_dnewK (pa_cons (pe_tup (pa_cons pe_int pa_nil)) (pa_cons (pe_lstN (pa_cons pe_int pa_nil)) (pa_cons (pe_tup (pa_cons (pe_tup pa_nil) pa_nil)) (pa_cons (pe_tup (pa_cons pe_int (pa_cons pe_int (pa_cons pe_int pa_nil))))
        (pa_cons (pe_tup (pa_cons pe_int (pa_cons pe_int (pa_cons pe_int (pa_cons (pe_tup pa_nil) (pa_cons (pe_tup pa_nil) pa_nil)))))) pa_nil)))))))))))))))))))
      (pss_one (ps_ret (pe_ix ix_list (pv 1) (pe_can CN hr (by rfl) (pa_cons (pv 0) (pa_cons pe_int pa_nil))) (fun _ _ => rfl)))), ?_⟩
    have s0 : (0 : Nat) ≤ sizeLine := by decide
    refine ⟨1, rfl, 10, 39, rfl, rfl, ⟨by decide, by decide, by decide⟩, s0, fun a1 n1 => ⟨s0, fun a2 n2 q2 => fun a3 n3 => ⟨show 1 ≤ sizeLine by decide, fun a4 n4 => ⟨show 1 ≤ sizeLine by decide, fun a5 n5 q5 => ⟨s0, fun a6 n6 => ⟨show 1 ≤ sizeLine by decide, fun a7 n7 => ⟨show 3 ≤ sizeLine by decide, fun a8 n8 => ⟨s0, fun a9 n9 => ⟨s0, fun a10 n10 => ⟨show 5 ≤ sizeLine by decide, fun a11 n11 => ⟨show 17 ≤ sizeLine by decide, fun l nl => ?_⟩⟩⟩⟩⟩⟩⟩⟩⟩⟩⟩
    have t0 := tr
    have t1 := t0.upd (p := a1) (o := .tup [])
    have t2 := t1.upd (p := a2) (o := .lst [])
    have t3 := t2.upd (p := a3) (o := .dK [])
    have t4 := t3.upd (p := a4) (o := .tup [.int 0])
    have t5 := t4.upd (p := a5) (o := .lst [.int 0])
    have t6 := t5.upd (p := a6) (o := .tup [])
    have t7 := t6.upd (p := a7) (o := .tup [.ref a6])
    have t8 := t7.upd (p := a8) (o := .tup [.int 0, .int 0, .int 0])
    have t9 := t8.upd (p := a9) (o := .tup [])
    have t10 := t9.upd (p := a10) (o := .tup [])
    have t11 := t10.upd (p := a11) (o := .tup [.int 0, .int 1, .int 2, .ref a9, .ref a10])
    have x1 := Dt.newT t0 n1 .nil
    have x2 := Dt.newL t1 n2 q2 .nil
    have x3 := Dt.newD t2 n3
    have x4 := Dt.newT t3 n4 (.cons (.int 0) .nil)
    have x5 := Dt.newL t4 n5 q5 (.cons (.int 0) .nil)
    have x6 := Dt.newT t5 n6 .nil
    have x7 := Dt.newT t6 n7 (.cons x6 .nil)
    have x8 := Dt.newT t7 n8 (.cons (.int 0) (.cons (.int 0) (.cons (.int 0) .nil)))
    have x9 := Dt.newT t8 n9 .nil
    have x10 := Dt.newT t9 n10 .nil
    have x11 := Dt.newT t10 n11 (.cons (.int 0) (.cons (.int 1) (.cons (.int 2) (.cons (x9.kn n10) (.cons x10 .nil)))))
    have y1 := (((((((((x1.kn (o := .lst []) n2).kn (o := .dK []) n3).kn (o := .tup [.int 0]) n4).kn (o := .lst [.int 0]) n5).kn (o := .tup []) n6).kn (o := .tup [.ref a6]) n7).kn (o := .tup [.int 0, .int 0, .int 0]) n8).kn (o := .tup []) n9).kn (o := .tup []) n10).kn (o := .tup [.int 0, .int 1, .int 2, .ref a9, .ref a10]) n11
    have y2 := ((((((((x2.kn (o := .dK []) n3).kn (o := .tup [.int 0]) n4).kn (o := .lst [.int 0]) n5).kn (o := .tup []) n6).kn (o := .tup [.ref a6]) n7).kn (o := .tup [.int 0, .int 0, .int 0]) n8).kn (o := .tup []) n9).kn (o := .tup []) n10).kn (o := .tup [.int 0, .int 1, .int 2, .ref a9, .ref a10]) n11
    have y3 := (((((((x3.kn (o := .tup [.int 0]) n4).kn (o := .lst [.int 0]) n5).kn (o := .tup []) n6).kn (o := .tup [.ref a6]) n7).kn (o := .tup [.int 0, .int 0, .int 0]) n8).kn (o := .tup []) n9).kn (o := .tup []) n10).kn (o := .tup [.int 0, .int 1, .int 2, .ref a9, .ref a10]) n11
    have y4 := ((((((x4.kn (o := .lst [.int 0]) n5).kn (o := .tup []) n6).kn (o := .tup [.ref a6]) n7).kn (o := .tup [.int 0, .int 0, .int 0]) n8).kn (o := .tup []) n9).kn (o := .tup []) n10).kn (o := .tup [.int 0, .int 1, .int 2, .ref a9, .ref a10]) n11
    have y5 := (((((x5.kn (o := .tup []) n6).kn (o := .tup [.ref a6]) n7).kn (o := .tup [.int 0, .int 0, .int 0]) n8).kn (o := .tup []) n9).kn (o := .tup []) n10).kn (o := .tup [.int 0, .int 1, .int 2, .ref a9, .ref a10]) n11
    have y7 := (((x7.kn (o := .tup [.int 0, .int 0, .int 0]) n8).kn (o := .tup []) n9).kn (o := .tup []) n10).kn (o := .tup [.int 0, .int 1, .int 2, .ref a9, .ref a10]) n11
    have y8 := ((x8.kn (o := .tup []) n9).kn (o := .tup []) n10).kn (o := .tup [.int 0, .int 1, .int 2, .ref a9, .ref a10]) n11
    have d11 := ((((((((((dk.new (o := .tup []) n1).new (o := .lst []) n2).new (o := .dK []) n3).new (o := .tup [.int 0]) n4).new (o := .lst [.int 0]) n5).new (o := .tup []) n6).new (o := .tup [.ref a6]) n7).new (o := .tup [.int 0, .int 0, .int 0]) n8).new (o := .tup []) n9).new (o := .tup []) n10).new (o := .tup [.int 0, .int 1, .int 2, .ref a9, .ref a10]) n11
    have k11 : Keep [D, R] H _ := (Keep.new n1).trans ((Keep.new (o := .lst []) n2).trans ((Keep.new (o := .dK []) n3).trans ((Keep.new (o := .tup [.int 0]) n4).trans ((Keep.new (o := .lst [.int 0]) n5).trans ((Keep.new (o := .tup []) n6).trans ((Keep.new (o := .tup [.ref a6]) n7).trans ((Keep.new (o := .tup [.int 0, .int 0, .int 0]) n8).trans ((Keep.new (o := .tup []) n9).trans ((Keep.new (o := .tup []) n10).trans (Keep.new (o := .tup [.int 0, .int 1, .int 2, .ref a9, .ref a10]) n11))))))))))
    have all : Dts av _ _ oddD := .cons .non (.cons (.bl true) (.cons (.bl false) (.cons (.int (-1)) (.cons (.int 0) (.cons (.int 1) (.cons (.int (10 ^ 39)) (.cons (.str "") (.cons (.str "0") (.cons y1 (.cons y2 (.cons y3 (.cons y4 (.cons y5 (.cons y7 (.cons y8 (.cons x11 .nil))))))))))))))))
    have all' := all.kn (o := .lst [.non, .bl true, .bl false, .int (-1), .int 0, .int 1, .int (10 ^ 39), .str "", .str "0", .ref a1, .ref a2, .ref a3, .ref a4, .ref a5, .ref a7, .ref a8, .ref a11]) nl
    have dl := d11.new (o := .lst [.non, .bl true, .bl false, .int (-1), .int 0, .int 1, .int (10 ^ 39), .str "", .str "0", .ref a1, .ref a2, .ref a3, .ref a4, .ref a5, .ref a7, .ref a8, .ref a11]) nl
    have nel := d11.ne nl
    have tl := t11.upd (p := l) (o := .lst [.non, .bl true, .bl false, .int (-1), .int 0, .int 1, .int (10 ^ 39), .str "", .str "0", .ref a1, .ref a2, .ref a3, .ref a4, .ref a5, .ref a7, .ref a8, .ref a11])
    refine ⟨.ref l, rfl, .ref D, rfl, D, C, R, b, 17, rfl, by decide, by decide, dl, by omega, fun H2 k kp d2 c1 c2 => ?_⟩
    have el := kp l _ upd_same (notDR nel.1 nel.2.2)
    have all2 := all'.keep (kp.mono (by intro z hz; simp only [List.mem_cons, List.not_mem_nil, or_false] at hz; rcases hz with hz | hz <;> (subst hz; assumption)))
    have hk : k.toNat < oddD.length := by show k.toNat < 17; omega
    have ek : oddD[k.toNat]? = some (oddD[k.toNat]'hk) := List.getElem?_eq_getElem hk
    obtain ⟨v, ev, dv⟩ := all2.get k.toNat ek
    refine ⟨l, _, k, v, rfl, rfl, SqL.of el, atI_of c1 ev, ?_⟩
    exact q H2 v _ (k11.trans ((Keep.new nl).trans kp)) d2 dv (odd_small _ (List.getElem_mem hk)) (tl.keep kp d2)
end
end Rw

namespace Rw
open PySem PySem.Spec PyProof.Rows L2
theorem subDR {D R : Addr} {av : List Addr} (mD : D ∈ av) (mR : R ∈ av) : ∀ z ∈ [D, R], z ∈ av := fun z hz => by
  simp only [List.mem_cons, List.not_mem_nil, or_false] at hz
  rcases hz with hz | hz <;> (subst hz; assumption)
abbrev besD (i : Int) : List PyData := [.int (i + 1), .int (i - 1), .bool (decide (V.int i = V.int 1)), .int (0 - i), .int (10 ^ 12 + 1), .int (10 ^ 6 + 1), .int (i + 16), .str (Str.ofString (toString i))]
theorem bes_small {M : Nat} {i : Int} (hM : 10 ^ 39 ≤ M) (hM2 : M + 16 ≤ big) (h : i.natAbs ≤ M) : ∀ d ∈ besD i, leafy (M + 16) d ∧ d.depth = 0 ∧ cnt d = 1 := by
  intro d hd
  have z1 : (reprText (Str.ofString (toString i))).length ≤ 2000 := reprs_int (by omega)
  simp only [besD, List.mem_cons, List.not_mem_nil, or_false] at hd
  rcases hd with e | e | e | e | e | e | e | e <;> subst e <;> refine ⟨?_, ?_, ?_⟩ <;> simp only [leafy, cnt, PyData.depth] <;> first | trivial | exact z1 | omega
section
variable {P : Program} {w : World} {K : PySem.W.Frag} {mg : Str → Option Value} {base : Heap}
abbrev sOther : Stmt := topS 36
theorem scOther : FnScope ["_law_deck_here", "_law_thing", "_law_course", "_law_beside"] ["_law_deck_here", "_law_thing"] (defScope sOther) := ⟨rfl, rfl, rfl, by decide +kernel, rfl, by decide +kernel, by decide +kernel⟩
def spOther : Sp := fun vs H Q _ => ∃ (D C R : Addr) (b : Int) (av : List Addr) (v : V) (d : PyData) (M m n : Nat), vs = [.ref D, v] ∧ Dt av H v d ∧ Sm M m n d ∧ 10 ^ 39 ≤ M ∧ M + 16 ≤ big ∧ Deck H D C R b ∧ b ≤ 700000000 ∧ Tr av H ∧ D ∈ av ∧ R ∈ av ∧
  ∀ H' (p : Addr) (us : List V) (ds : List PyData), Keep [D, R] H H' → Deck H' D C R (b + 3) → H' p = some (.lst us) → Dts av H' us ds → leafys (M + 16) ds → PyData.depthAll ds ≤ max m 2 → cnts ds ≤ 2 * n + 10 → ds.length ≤ 2 → Tr av H' → Q (.ref p) H'
theorem one_of {M : Nat} {d : PyData} {m n : Nat} (h : leafy M d) (h2 : d.depth ≤ m) (h3 : cnt d ≤ n) : leafys M [d] ∧ PyData.depthAll [d] ≤ m ∧ cnts [d] ≤ n := by
  simp only [leafys, PyData.depthAll, cnts]
  exact ⟨⟨h, trivial⟩, by omega, by omega⟩
theorem leafys_rev {M : Nat} : ∀ {xs : List PyData}, leafys M xs → leafys M xs.reverse
  | [], _ => by simp [leafys]
  | x :: xs, h => by
    simp only [leafys] at h
    rw [List.reverse_cons, leafys_app]
    exact ⟨leafys_rev h.2, by simp only [leafys]; exact ⟨h.1, trivial⟩⟩
theorem cnts_rev : ∀ xs : List PyData, cnts xs.reverse = cnts xs
  | [] => rfl
  | x :: xs => by rw [List.reverse_cons, cnts_app, cnts_rev xs]; simp only [cnts]; omega
theorem depth_rev : ∀ xs : List PyData, PyData.depthAll xs.reverse = PyData.depthAll xs
  | [] => rfl
  | x :: xs => by rw [List.reverse_cons, depth_app, depth_rev xs]; simp only [PyData.depthAll]; omega
theorem ok_other (h : Has K mg "_law_otherwise" sOther) (B : Blt mg) (CN : Can P w K mg base "_law_next" ["_law_deck_here", "_law_many"] 1 spNext) (CO : Can P w K mg base "_law_odd" ["_law_deck_here"] 2 spOdd) :
    Can P w K mg base "_law_otherwise" ["_law_deck_here", "_law_thing"] 3 spOther := by
  obtain ⟨f, fd, F, g⟩ := h
  refine ⟨f, fd, F.ok (k := 2) scOther (fun vs H Q E h => ?_) (fun cdv A outer s H vs Q E hr h => ?_), g, F.kp, F.binds fun _ _ _ _ _ _ us hl => match us, hl with | [_, _], _ => rfl⟩
  · obtain ⟨D, C, R, b, av, v, d, M, m, n, rfl, _⟩ := h
    rfl
  · obtain ⟨D, C, R, b, av, v, d, M, m, n, rfl, dv, sm, M1, M2, dk, hb, tr, mD, mR, q⟩ := h
    refine ⟨_, pss_cons (ps_set (i := 2) scOther.nd rfl (.inl rfl) (pe_can CN (hr.mono (by decide)) (by rfl) (pa_cons (pv 0) (pa_cons pe_int pa_nil))))
      (pss_cons (ps_if (PW.pt (pw_and (pt_val (pe_callB (call_isD kit_int) (by rfl) B.isi boot_isinstance (pa_cons (pv 1) (pa_cons (pe_bltn (v := .ty "int") (by rfl) B.int_ boot_int rfl) pa_nil))))
          (pw_and (pt_not (pt_val (pe_callB (call_isD kit_bool) (by rfl) B.isi boot_isinstance (pa_cons (pv 1) (pa_cons (pe_bltn (v := .ty "bool") (by rfl) B.bool_ boot_bool rfl) pa_nil))))) (pw_and1 (pt_cmpR op_lt (pv 2) pe_int (nomark _))))))
        (pss_cons (ps_set (i := 3) scOther.nd rfl (.inl rfl) (pe_lst (pa_cons (pe_op op_add (pv 1) pe_int) (pa_cons (pe_op op_sub (pv 1) pe_int) (pa_cons (pe_cmpR op_eq (pv 1) pe_int (nomark _)) (pa_cons (pe_op op_sub pe_int (pv 1))
          (pa_cons (pe_op op_add (pe_op op_pow pe_int pe_int) pe_int) (pa_cons (pe_op op_add (pe_op op_pow pe_int pe_int) pe_int) (pa_cons (pe_op op_add (pv 1) pe_int) (pa_cons (pe_callTy call_str_int (by rfl) B.str_ boot_str (pa_cons (pv 1) pa_nil)) pa_nil))))))))))
        (pss_one (ps_ret (pe_lst (pa_cons (pe_ix ix_list (pv 3) (pe_can CN (hr.mono (by decide)) (by rfl) (pa_cons (pv 0) (pa_cons pe_int pa_nil))) (fun _ _ => rfl)) pa_nil))))) pss_nil)
      (pss_cons (ps_if (PW.pt (pw_and (pt_val (pe_callB (call_isD kit_tup) (by rfl) B.isi boot_isinstance (pa_cons (pv 1) (pa_cons (pe_bltn (v := .ty "tuple") (by rfl) B.tuple_ boot_tuple rfl) pa_nil)))) (pw_and1 (pt_cmpR op_lt (pv 2) pe_int (nomark _)))))
        (pss_one (ps_ret (pe_lst (pa_cons (pe_ix ix_list (pe_lst (pa_cons (pe_callTy call_listN (by rfl) B.list_ boot_list (pa_cons (pv 1) pa_nil)) (pa_cons (pe_back (pv 1)) pa_nil))) (pv 2) (fun _ _ => rfl)) pa_nil)))) pss_nil)
      (pss_cons (ps_if (pt_cmpR op_eq (pv 2) pe_int (nomark _)) (pss_one (ps_ret (pe_lst pa_nil))) pss_nil)
      (pss_cons (ps_if (pt_cmpR op_eq (pv 2) pe_int (nomark _)) (pss_one (ps_ret (pe_lst (pa_cons (pv 1) (pa_cons (pv 1) pa_nil))))) pss_nil)
      (pss_one (ps_ret (pe_lst (pa_cons (pe_can CO hr (by rfl) (pa_cons (pv 0) pa_nil)) pa_nil)))))))), ?_⟩
    refine ⟨.ref D, rfl, D, C, R, b, 9, rfl, by decide, by decide, dk, by omega, fun H1 c k1 d1 c0 c1 => ?_⟩
    have sub := subDR mD mR
    have dv1 := dv.keep (k1.mono sub)
    have tr1 := tr.keep k1 d1
    -- what comes behind the two first tests
    have ends : ∀ (H2 : Hp) (us : List V) (ds : List PyData) (b2 : Int), Keep [D, R] H H2 → Deck H2 D C R b2 → b2 ≤ b + 3 → Dts av H2 us ds → leafys (M + 16) ds → PyData.depthAll ds ≤ max m 2 → cnts ds ≤ 2 * n + 10 → ds.length ≤ 2 → ∀ p, H2 p = none → Q (.ref p) (upd H2 p (.lst us)) :=
      fun H2 us ds b2 k2 d2 hb2 x1 x2 x3 x4 x5 p np => q _ p us ds (k2.trans (Keep.new np)) ((d2.new np).mono hb2) upd_same (x1.kn np) x2 x3 x4 x5 (tr.keep k2 d2).upd
    have hct := cnt_pos d
    have smc := sm.ct
    have lfd : leafy (M + 16) d := leafy_mono (by omega) d sm.lf
    have self1 := one_of lfd sm.dp sm.ct
    -- the last tests
    have last : ∀ p, H1 p = none → True := fun _ _ => trivial
    refine ⟨v, rfl, v, d, av, rfl, dv1, _, rfl, ite2 (fun e => ⟨v, rfl, v, d, av, rfl, dv1, _, rfl, ite2 (fun e2 => ⟨.int c, rfl, c, 5, rfl, rfl, _, rfl, ite2 (fun e3 => ?yes) (fun e3 => ?no3)⟩) (fun e2 => ?no2)⟩) (fun e => ?no1)⟩
    case yes =>
      cases dv1 <;> first | (cases e; done) | (cases e2; done) | skip
      rename_i i
      have hi : i.natAbs ≤ M := by have := sm.lf; simp only [leafy] at this; exact this
      refine ⟨.int i, rfl, i, 1, rfl, rfl, .int i, rfl, i, 1, rfl, rfl, .int i, rfl, rfl, .int i, rfl, 0, i, rfl, rfl, 10, 12, rfl, rfl, ⟨by decide, by decide, by decide⟩, _, 1, rfl, rfl, 10, 6, rfl, rfl, ⟨by decide, by decide, by decide⟩, _, 1, rfl, rfl, .int i, rfl, i, 16, rfl, rfl, .int i, rfl, i, rfl, log2_big (by omega), show 8 ≤ sizeLine by decide, fun l nl => ?_⟩
      have nel := d1.ne nl
      refine ⟨.ref l, rfl, .ref D, rfl, D, C, R, b + 1, 8, rfl, by decide, by decide, d1.new nl, by omega, fun H2 k k2 d2 a1 a2 => ?_⟩
      have el := k2 l _ upd_same (notDR nel.1 nel.2.2)
      have all : Dts av H2 [.int (i + 1), .int (i - 1), .bl (decide (V.int i = V.int 1)), .int (0 - i), .int (10 ^ 12 + 1), .int (10 ^ 6 + 1), .int (i + 16), .str (Str.ofString (toString i))] (besD i) :=
        .cons (.int _) (.cons (.int _) (.cons (.bl _) (.cons (.int _) (.cons (.int _) (.cons (.int _) (.cons (.int _) (.cons (.str _) .nil)))))))
      have hk : k.toNat < (besD i).length := by show k.toNat < 8; omega
      have ek : (besD i)[k.toNat]? = some ((besD i)[k.toNat]'hk) := List.getElem?_eq_getElem hk
      obtain ⟨x, ex, dx⟩ := all.get k.toNat ek
      have bs := bes_small M1 M2 hi _ (List.getElem_mem hk)
      obtain ⟨o1, o2, o3⟩ := one_of (m := max m 2) (n := 2 * n + 10) bs.1 (by rw [bs.2.1]; omega) (by rw [bs.2.2]; omega)
      refine ⟨l, _, k, x, rfl, rfl, SqL.of el, atI_of a1 ex, show 1 ≤ sizeLine by decide, ?_⟩
      exact ends H2 [x] _ (b + 1 + 1) (k1.trans ((Keep.new nl).trans k2)) d2 (by omega) (.cons dx .nil) o1 o2 o3 (by show 1 ≤ 2; decide)
    all_goals
      refine ⟨v, rfl, v, d, av, rfl, dv1, _, rfl, ite2 (fun f => ⟨.int c, rfl, c, 2, rfl, rfl, _, rfl, ite2 (fun f3 => ?_) (fun f3 => ?_)⟩) (fun f => ?_)⟩
      · have c2 : c < 2 := of_decide_eq_true f3
        cases dv1 <;> first | (cases f; done) | skip
        rename_i a xs ds na ea hs
        have lf := sm.lf
        have dp := sm.dp
        simp only [leafy] at lf
        simp only [PyData.depth] at dp
        simp only [cnt] at smc
        have lf' : leafys (M + 16) ds := leafys_mono (by omega) ds lf
        refine ⟨.ref a, rfl, a, xs, rfl, SqT.of ea, fun l1 nl1 ql1 => ?_⟩
        have ea2 : (upd H1 l1 (.lst xs)) a = some (.tup xs) := by rw [upd_ne (ne_of_none ea nl1)]; exact ea
        refine ⟨.ref a, rfl, a, xs, rfl, SqT.of ea2, fun l2 nl2 => ?_⟩
        have x1 : Dt av (upd (upd H1 l1 (.lst xs)) l2 (.tup xs.reverse)) (.ref l1) (.list ds) := (Dt.newL tr1 nl1 ql1 hs).kn nl2
        have x2 : Dt av (upd (upd H1 l1 (.lst xs)) l2 (.tup xs.reverse)) (.ref l2) (.tuple ds.reverse) := Dt.newT tr1.upd nl2 (hs.kn nl1).rev
        refine ⟨show 2 ≤ sizeLine by decide, fun l3 nl3 => ?_⟩
        have kk : Keep [D, R] H1 (upd (upd (upd H1 l1 (.lst xs)) l2 (.tup xs.reverse)) l3 (.lst [.ref l1, .ref l2])) := (Keep.new nl1).trans ((Keep.new nl2).trans (Keep.new nl3))
        have dd : Deck (upd (upd (upd H1 l1 (.lst xs)) l2 (.tup xs.reverse)) l3 (.lst [.ref l1, .ref l2])) D C R (b + 1) := ((d1.new nl1).new nl2).new nl3
        by_cases h0 : c = 0
        · subst h0
          refine ⟨.int 0, rfl, l3, _, 0, .ref l1, rfl, rfl, SqL.of upd_same, atI_nat (j := 0) rfl, show 1 ≤ sizeLine by decide, ?_⟩
          obtain ⟨o1, o2, o3⟩ := one_of (M := M + 16) (d := .list ds) (m := max m 2) (n := 2 * n + 10) (by simp only [leafy]; exact lf') (by simp only [PyData.depth]; omega) (by simp only [cnt]; omega)
          exact ends _ [.ref l1] _ (b + 1) (k1.trans kk) dd (by omega) (.cons (x1.kn nl3) .nil) o1 o2 o3 (by show 1 ≤ 2; decide)
        · obtain rfl : c = 1 := by omega
          refine ⟨.int 1, rfl, l3, _, 1, .ref l2, rfl, rfl, SqL.of upd_same, atI_nat (j := 1) rfl, show 1 ≤ sizeLine by decide, ?_⟩
          obtain ⟨o1, o2, o3⟩ := one_of (M := M + 16) (d := .tuple ds.reverse) (m := max m 2) (n := 2 * n + 10) (by simp only [leafy]; exact leafys_rev lf') (by simp only [PyData.depth]; rw [depth_rev]; omega) (by simp only [cnt]; rw [cnts_rev]; omega)
          exact ends _ [.ref l2] _ (b + 1) (k1.trans kk) dd (by omega) (.cons (x2.kn nl3) .nil) o1 o2 o3 (by show 1 ≤ 2; decide)
      all_goals
        refine ⟨.int c, rfl, rfl, _, rfl, ite2 (fun _ => ⟨show 0 ≤ sizeLine by decide, ends H1 [] [] (b + 1) k1 d1 (by omega) .nil (by simp only [leafys]) (by simp only [PyData.depthAll]; omega) (by simp only [cnts]; omega) (by decide)⟩) (fun _ => ?_)⟩
        refine ⟨.int c, rfl, rfl, _, rfl, ite2 (fun _ => ⟨v, rfl, v, rfl, show 2 ≤ sizeLine by decide, ends H1 [v, v] [d, d] (b + 1) k1 d1 (by omega) (.cons dv1 (.cons dv1 .nil)) (by simp only [leafys]; exact ⟨lfd, lfd, trivial⟩) (by have := sm.dp; simp only [PyData.depthAll]; omega) (by simp only [cnts]; omega) (by show 2 ≤ 2; decide)⟩) (fun _ => ?_)⟩
        refine ⟨.ref D, rfl, D, C, R, b + 1, av, rfl, d1, by omega, tr1, mD, mR, fun H2 x dx k2 d2 xd xs _ => ?_⟩
        obtain ⟨o1, o2, o3⟩ := one_of (M := M + 16) (m := max m 2) (n := 2 * n + 10) (leafy_mono (by omega) dx xs.lf) (by have := xs.dp; omega) (by have := xs.ct; omega)
        exact ⟨show 1 ≤ sizeLine by decide, ends H2 [x] [dx] (b + 1 + 1) (k1.trans k2) d2 (by omega) (.cons xd .nil) o1 o2 o3 (by show 1 ≤ 2; decide)⟩
end
end Rw

namespace Rw
open PySem PySem.Spec PyProof.Rows L2
section
variable {X : Cx}
/-! t != (), whatever is in t -/
def rNeNil (K : PySem.W.Frag) : R2 := fun x y H Q => ∃ a b xs, x = .ref a ∧ y = .ref b ∧ SqT K H a xs ∧ SqT K H b [] ∧ Q (.bl (!xs.isEmpty)) H
theorem op_neNil (hu : X.A.units < cLine) : OpR X (compareOp .NotEq) (rNeNil X.K) := by
  intro pins s σ H x y v u Q I rx ry h
  obtain ⟨a, b, xs, rfl, rfl, ha, hb, q⟩ := h
  cases rx
  cases ry
  obtain ⟨its, r, ⟨o, ho, hc, n, hd⟩, _⟩ := I.tuple ha
  obtain ⟨its2, r2, ⟨o2, ho2, hc2, n2, hd2⟩, _⟩ := I.tuple hb
  cases r2
  have z := SeqAt.RcNeAt.tuples (A := X.A) (s := s) (e := fun _ => true) ⟨o, ho, hc, n, hd⟩ ⟨o2, ho2, hc2, n2, hd2⟩ hu (fun j _ j2 => absurd j2 (Nat.not_lt_zero j))
  refine z X.prog X.w X.xe _ ?_
  refine ⟨.bl (!xs.isEmpty), H, I, ?_, q⟩
  have ln := r.length
  show _ = Value.bool (!xs.isEmpty)
  trace_state
  cases xs with
  | nil => cases r; rfl
  | cons _ _ => cases r; simp
end
end Rw

namespace Rw
open PySem PySem.Spec PyProof.Rows L2
/-! ### tuples cut and joined, as data -/
theorem sl_take {K : PySem.W.Frag} {av : List Addr} {H : Hp} {v : V} {ds : List PyData} {Q : VK} (k : Nat) (x : Dt av H v (.tuple ds)) (t : Tr av H) (q : ∀ H' v', Keep [] H H' → Tr av H' → Dt av H' v' (.tuple (ds.take k)) → Q v' H') : rSlA K v none (some (k : Int)) H Q := by
  cases x with
  | tup na ea da =>
    refine ⟨_, _, rfl, SqT.of ea, fun hw => ?_, fun hw p np => ?_⟩
    · have h2 := hw.2
      rw [HT.sIx_nat] at h2
      have e : ds.take k = ds := List.take_of_length_le (by rw [← da.len]; omega)
      exact q H _ (Keep.refl _ _) t (by rw [e]; exact .tup na ea da)
    · rw [cut_to]; exact q _ _ (Keep.new np) t.upd (Dt.newT t np (da.take k))
theorem sl_drop {K : PySem.W.Frag} {av : List Addr} {H : Hp} {v : V} {ds : List PyData} {Q : VK} (k : Nat) (x : Dt av H v (.tuple ds)) (t : Tr av H) (q : ∀ H' v', Keep [] H H' → Tr av H' → Dt av H' v' (.tuple (ds.drop k)) → Q v' H') : rSlA K v (some (k : Int)) none H Q := by
  cases x with
  | tup na ea da =>
    refine ⟨_, _, rfl, SqT.of ea, fun hw => ?_, fun hw p np => ?_⟩
    · have h2 := hw.1
      rw [HT.sIx_nat] at h2
      have e : ds.drop k = ds := by
        have ln := da.len
        by_cases hk : k = 0
        · rw [hk]; rfl
        · have : ds.length = 0 := by omega
          cases ds with
          | nil => exact List.drop_nil
          | cons _ _ => cases this
      exact q H _ (Keep.refl _ _) t (by rw [e]; exact .tup na ea da)
    · rw [cut_from]; exact q _ _ (Keep.new np) t.upd (Dt.newT t np (da.drop k))
theorem cat_any {K : PySem.W.Frag} {av : List Addr} {H : Hp} {v1 v2 : V} {d1 d2 : List PyData} {Q : VK} (x : Dt av H v1 (.tuple d1)) (y : Dt av H v2 (.tuple d2)) (hl : d1.length + d2.length ≤ sizeLine) (t : Tr av H)
    (q : ∀ H' v', Keep [] H H' → Tr av H' → Dt av H' v' (.tuple (d1 ++ d2)) → Q v' H') : rCatA K v1 v2 H Q := by
  cases x with
  | tup na ea da =>
    cases y with
    | tup nb eb db =>
      refine ⟨_, _, _, _, rfl, rfl, SqT.of ea, SqT.of eb, by rw [da.len, db.len]; exact hl, fun e => ?_, fun _ e => ?_, fun _ _ p np => ?_⟩
      · have e' : d1 = [] := by
          have := da.len
          rw [e] at this
          exact List.eq_nil_of_length_eq_zero this.symm
        subst e'
        exact q H _ (Keep.refl _ _) t (.tup nb eb db)
      · have e' : d2 = [] := by
          have := db.len
          rw [e] at this
          exact List.eq_nil_of_length_eq_zero this.symm
        subst e'
        exact q H _ (Keep.refl _ _) t (by rw [List.append_nil]; exact .tup na ea da)
      · exact q _ _ (Keep.new np) t.upd (Dt.newT t np (da.app db))
theorem tw {c : TT} {tb : TS} {D : Ends} {σ : L2.St} {H : Hp} (W : Nat → L2.St → Hp → Prop) (Ex : L2.St → Hp → Prop) (m : Nat) (h0 : W m σ H) (hd : ∀ σ H, Ex σ H → D.nx σ H)
    (hs : (∀ σ H, Ex σ H → D.nx σ H) → ∀ m σ H, W m σ H → c σ H fun b H1 => if b = true then ∃ N : L2.St → Hp → Prop, (∀ σ' H', N σ' H' → ∃ m', m' < m ∧ W m' σ' H') ∧ tb { D with nx := N, ct := N, bk := D.nx } σ H1 else D.nx σ H1) : tWhile c tb D σ H :=
  ⟨W, ⟨m, h0⟩, hs hd⟩
/-! ### the way down into a thing -/
inductive Chain (d : PyData) : List (List PyData × Nat) → PyData → Prop
  | nil : Chain d [] d
  | snoc {p : List (List PyData × Nat)} {ds : List PyData} {s : Nat} {e : PyData} : Chain d p (.tuple ds) → ds[s]? = some e → Chain d (p ++ [(ds, s)]) e
theorem Chain.inv {d e : PyData} {q : List (List PyData × Nat)} (c : Chain d q e) {p : List (List PyData × Nat)} {ds : List PyData} {s : Nat} (h : q = p ++ [(ds, s)]) : Chain d p (.tuple ds) ∧ ds[s]? = some e := by
  cases c with
  | nil => exact absurd h.symm (by simp)
  | snoc c1 h1 =>
    obtain ⟨e1, e2⟩ := List.append_inj' h rfl
    cases e2
    subst e1
    exact ⟨c1, h1⟩
theorem Chain.top {d e : PyData} {q : List (List PyData × Nat)} (c : Chain d q e) (h : q = []) : e = d := by
  cases c with
  | nil => rfl
  | snoc c1 h1 => exact absurd h (by simp)
theorem lay_mem : ∀ {xs : List PyData} {d : PyData}, PyData.canLayAll0 xs = true → d ∈ xs → d.canLay0 = true
  | x :: xs, d, h, m => by
    simp only [PyData.canLayAll0, Bool.and_eq_true] at h
    rcases List.mem_cons.mp m with m | m
    · rw [m]; exact h.1
    · exact lay_mem h.2 m
theorem Chain.facts {M : Nat} {d e : PyData} {q : List (List PyData × Nat)} (c : Chain d q e) (hl : leafy M d) : leafy M e ∧ e.depth + q.length ≤ d.depth ∧ cnt e ≤ cnt d ∧ (d.canLay0 = true → e.canLay0 = true) := by
  induction c with
  | nil => exact ⟨hl, by simp, Nat.le_refl _, id⟩
  | snoc c1 h1 ih =>
    obtain ⟨i1, i2, i3, i4⟩ := ih
    have m := List.mem_of_getElem? h1
    have z1 := depth_mem m
    have z2 := cnts_mem m
    simp only [leafy] at i1
    simp only [PyData.depth] at i2
    simp only [cnt] at i3
    refine ⟨leafys_mem i1 m, by rw [List.length_append, List.length_singleton]; omega, by omega, fun h => ?_⟩
    have := i4 h
    simp only [PyData.canLay0] at this
    exact lay_mem this m
def pD (x : List PyData × Nat) : PyData := .tuple [.tuple x.1, .int x.2]
theorem swap_part {M : Nat} {ds new : List PyData} {s : Nat} {e : PyData} (he : ds[s]? = some e) (h1 : leafys M ds) (h2 : leafys M new) (h3 : PyData.depthAll new ≤ e.depth + 2) (h4 : cnts new ≤ 2 * cnt e + 10) :
    leafys M [.tuple (ds.take s ++ new ++ ds.drop (s + 1))] ∧ PyData.depthAll [.tuple (ds.take s ++ new ++ ds.drop (s + 1))] ≤ (PyData.tuple ds).depth + 2 ∧ cnts [.tuple (ds.take s ++ new ++ ds.drop (s + 1))] ≤ 2 * cnt (.tuple ds) + 10 := by
  have hs : s < ds.length := (List.getElem?_eq_some_iff.mp he).1
  have e0 : ds = ds.take s ++ (e :: ds.drop (s + 1)) := by
    have e1 : ds[s] = e := (List.getElem?_eq_some_iff.mp he).2
    rw [← e1, List.getElem_cons_drop, List.take_append_drop]
  have l0 : leafys M (ds.take s ++ (e :: ds.drop (s + 1))) := e0 ▸ h1
  rw [leafys_app] at l0
  have l1 := l0.2
  simp only [leafys] at l1
  have c0 : cnts ds = cnts (ds.take s) + (cnt e + cnts (ds.drop (s + 1))) := by
    have := congrArg cnts e0
    rw [cnts_app] at this
    simp only [cnts] at this
    exact this
  have d0 : PyData.depthAll ds = max (PyData.depthAll (ds.take s)) (max e.depth (PyData.depthAll (ds.drop (s + 1)))) := by
    have := congrArg PyData.depthAll e0
    rw [depth_app] at this
    simp only [PyData.depthAll] at this
    exact this
  have p1 := cnt_pos e
  refine ⟨?_, ?_, ?_⟩
  · simp only [leafys, leafy]
    rw [leafys_app, leafys_app]
    exact ⟨⟨⟨l0.1, h2⟩, l1.2⟩, trivial⟩
  · simp only [PyData.depthAll, PyData.depth]
    rw [depth_app, depth_app]
    omega
  · simp only [cnts, cnt]
    rw [cnts_app, cnts_app]
    omega
section
variable {P : Program} {w : World} {K : PySem.W.Frag} {mg : Str → Option Value} {base : Heap}
abbrev sSpoilt : Stmt := topS 37
abbrev nSpoilt : List Str := ["_law_deck_here", "_law_thing", "_law_path", "_law_one_here", "_law_spot", "_law_new", "_law_outer"]
theorem scSpoilt : FnScope nSpoilt ["_law_deck_here", "_law_thing"] (defScope sSpoilt) := ⟨rfl, rfl, rfl, by decide +kernel, rfl, by decide +kernel, by decide +kernel⟩
def spSpoilt : Sp := fun vs H Q _ => ∃ (D C R : Addr) (b : Int) (av : List Addr) (v : V) (d : PyData) (M m n : Nat), vs = [.ref D, v] ∧ Dt av H v d ∧ Sm M m n d ∧ m ≤ 20 ∧ n ≤ 100000 ∧ 10 ^ 39 ≤ M ∧ M + 16 ≤ big ∧ Deck H D C R b ∧ b ≤ 600000000 ∧ Tr av H ∧ D ∈ av ∧ R ∈ av ∧
  ∀ H' (x : V) (dx : PyData), Keep [D, R] H H' → Deck H' D C R (b + 100) → Dt av H' x dx → Sm (M + 16) (m + 2) (2 * n + 10) dx → Tr av H' → Q x H'
theorem len_cnts : ∀ ds : List PyData, ds.length ≤ cnts ds
  | [] => by simp
  | d :: ds => by
    have := len_cnts ds
    have := cnt_pos d
    rw [List.length_cons]
    simp only [cnts]
    omega
theorem ok_spoilt (h : Has K mg "_law_spoilt" sSpoilt) (B : Blt mg) (CN : Can P w K mg base "_law_next" ["_law_deck_here", "_law_many"] 1 spNext) (CO : Can P w K mg base "_law_otherwise" ["_law_deck_here", "_law_thing"] 3 spOther) :
    Can P w K mg base "_law_spoilt" ["_law_deck_here", "_law_thing"] 4 spSpoilt := by
  obtain ⟨f, fd, F, g⟩ := h
  refine ⟨f, fd, F.ok (k := 3) scSpoilt (fun vs H Q E h => ?_) (fun cdv A outer s H vs Q E hr h => ?_), g, F.kp, F.binds fun _ _ _ _ _ _ us hl => match us, hl with | [_, _], _ => rfl⟩
  · obtain ⟨D, C, R, b, av, v, d, M, m, n, rfl, _⟩ := h
    rfl
  · obtain ⟨D, C, R, b, av, v, d, M, m, n, rfl, dv, sm, m20, n1, M1, M2, dk, hb, tr, mD, mR, q⟩ := h
    refine ⟨_, pss_cons (ps_set (i := 2) scSpoilt.nd rfl (.inl rfl) (pe_lst pa_nil))
      (pss_cons (ps_set (i := 3) scSpoilt.nd rfl (.inl rfl) (pv 1))
      (pss_cons (ps_while PassesOwn.never (PW.pt (pw_and (pt_val (pe_callB (call_isD kit_tup) (by rfl) B.isi boot_isinstance (pa_cons (pv 3) (pa_cons (pe_bltn (v := .ty "tuple") (by rfl) B.tuple_ boot_tuple rfl) pa_nil))))
          (pw_and (pt_cmpR (op_neNil hr.units0) (pv 3) (pe_tup pa_nil) (nomark _)) (pw_and1 (pt_cmpR op_gt (pe_can CN (hr.mono (by decide)) (by rfl) (pa_cons (pv 0) (pa_cons pe_int pa_nil))) pe_int (nomark _))))))
        (pss_cons (ps_set (i := 4) scSpoilt.nd rfl (.inl rfl) (pe_can CN (hr.mono (by decide)) (by rfl) (pa_cons (pv 0) (pa_cons (pe_callB call_len_seq (by rfl) B.len_ PySem.boot_len (pa_cons (pv 3) pa_nil)) pa_nil))))
        (pss_cons (ps_expr (pe_bm PySem.F.plainAttrs_list PySem.F.slot_list_append PySem.F.type_list_append mt_append (pv 2) (pa_cons (pe_tup (pa_cons (pv 3) (pa_cons (pv 4) pa_nil))) pa_nil)))
        (pss_one (ps_set (i := 3) scSpoilt.nd rfl (.inl rfl) (pe_ix ix_tup (pv 3) (pv 4) (fun _ _ => rfl)))))))
      (pss_cons (ps_set (i := 5) scSpoilt.nd rfl (.inl rfl) (pe_can CO hr (by rfl) (pa_cons (pv 0) (pa_cons (pv 3) pa_nil))))
      (pss_cons (ps_for PassesOwn.never rfl (RT.pi_revA (by rfl) B.reversed_ (pv 2)) (pg_tup (by rfl) (pgs_cons (pg_name (i := 6) scSpoilt.nd rfl (.inl rfl)) (pgs_cons (pg_name (i := 4) scSpoilt.nd rfl (.inl rfl)) pgs_nil)))
        (pss_one (ps_set (i := 5) scSpoilt.nd rfl (.inl rfl) (pe_lst (pa_cons (pe_op op_catA (pe_op op_catA (pe_slice sl_tupA (pv 6) po_none (po_some (pv 4))) (pe_callTy call_tuple_of (by rfl) B.tuple_ boot_tuple (pa_cons (pv 5) pa_nil)))
          (pe_slice sl_tupA (pv 6) (po_some (pe_op op_add (pv 4) pe_int)) po_none)) pa_nil)))))
      (pss_one (ps_ret (pe_ix ix_list (pe_op op_cat (pv 5) (pe_lst (pa_cons pe_non pa_nil))) pe_int (fun _ _ => rfl)))))))), ?_⟩
    refine ⟨show 0 ≤ sizeLine by decide, fun Pp nP => ⟨v, rfl, ?_⟩⟩
    have zP := dk.ne nP
    have dv0 : Dt (Pp :: av) (upd H Pp (.lst [])) v d := (dv.more nP).keep (Keep.new nP)
    have tr0 : Tr (Pp :: av) (upd H Pp (.lst [])) := (tr.upd).cons upd_same
    have mD' : D ∈ Pp :: av := List.mem_cons_of_mem _ mD
    have mR' : R ∈ Pp :: av := List.mem_cons_of_mem _ mR
    have sub := subDR mD' mR'
    refine tw (fun k σ G => ∃ (path : List (List PyData × Nat)) (us : List V) (e : PyData) (ve : V) (s4 : Option V), σ = [some (.ref D), some v, some (.ref Pp), some ve, s4, none, none] ∧ Keep [D, R] H G ∧ Deck G D C R (b + 2 * path.length) ∧ Tr (Pp :: av) G ∧ G Pp = some (.lst us) ∧ Dts (Pp :: av) G us (path.map pD) ∧ Dt (Pp :: av) G ve e ∧ Chain d path e ∧ e.depth ≤ k)
      (fun σ G => ∃ (path : List (List PyData × Nat)) (us : List V) (e : PyData) (ve : V) (s4 : Option V), σ = [some (.ref D), some v, some (.ref Pp), some ve, s4, none, none] ∧ Keep [D, R] H G ∧ Deck G D C R (b + 2 * path.length + 1) ∧ Tr (Pp :: av) G ∧ G Pp = some (.lst us) ∧ Dts (Pp :: av) G us (path.map pD) ∧ Dt (Pp :: av) G ve e ∧ Chain d path e)
      d.depth ⟨[], [], d, v, none, rfl, Keep.new nP, (dk.new nP).mono (by simp), tr0, upd_same, .nil, dv0, .nil, Nat.le_refl _⟩ (fun σ G p => ?_) (fun exit k σ G p => ?_)
    · -- behind the way down
      obtain ⟨path, us, e, ve, s4, rfl, kG, dG, tG, eP, dts, de, ch⟩ := p
      obtain ⟨f1, f2, f3, f4⟩ := ch.facts sm.lf
      have pl : path.length ≤ 20 := by have := sm.dp; omega
      have smd := sm.dp
      have smc := sm.ct
      refine ⟨.ref D, rfl, ve, rfl, D, C, R, _, Pp :: av, ve, e, M, e.depth, cnt e, rfl, de, ⟨f1, Nat.le_refl _, Nat.le_refl _⟩, M1, M2, dG, by omega, tG, mD', mR', fun G2 pn ns ds k2 d2 epn dn l2 dp2 ct2 ln2 t2 => ?_⟩
      have eP2 := k2 Pp _ eP (notDR zP.1 zP.2.2)
      have dts2 := dts.keep (k2.mono sub)
      have kH2 : Keep [D, R] H G2 := kG.trans k2
      have ul : us.length = path.length := by rw [dts.len, List.length_map]
      refine ⟨.ref Pp, rfl, Pp, us, rfl, .inl ⟨SqL.of eP2, RT.for_Itv (xs := us)
        (fun i σ J => ∃ (s4 s6 : Option V) (pn : Addr) (ns : List V) (ds : List PyData) (e : PyData), σ = [some (.ref D), some v, some (.ref Pp), some ve, s4, some (.ref pn), s6] ∧ Keep [] G2 J ∧ Tr (Pp :: av) J ∧ J pn = some (.lst ns) ∧ Dts (Pp :: av) J ns ds ∧ Chain d (path.take (path.length - i)) e ∧ leafys (M + 16) ds ∧ PyData.depthAll ds ≤ e.depth + 2 ∧ cnts ds ≤ 2 * cnt e + 10 ∧ ds.length ≤ 2)
        ⟨s4, none, pn, ns, ds, e, rfl, Keep.refl _ _, t2, epn, dn, by rw [Nat.sub_zero, List.take_of_length_le (Nat.le_refl _)]; exact ch, l2, by omega, ct2, ln2⟩ (fun i σ J p => ?_) (fun i x σ J hi hx p => ?_) (fun σ J p => ?_)⟩⟩
      · obtain ⟨_, _, _, _, _, _, _, kJ, _⟩ := p
        exact kJ.same.seq (SqL.of eP2)
      · obtain ⟨s4, s6, pn, ns, ds, e, rfl, kJ, tJ, epn, dn, ch, l2, dp2, ct2, ln2⟩ := p
        have hi' : i < path.length := by omega
        have hj : us.length - 1 - i = path.length - 1 - i := by omega
        rw [hj] at hx
        obtain ⟨dd, ed, dx⟩ := (dts2.keep (Keep.of kJ)).getv (path.length - 1 - i) hx
        rw [List.getElem?_map] at ed
        obtain ⟨⟨os, sp⟩, ep, rfl⟩ := Option.map_eq_some_iff.mp ed
        have tk : path.take (path.length - i) = path.take (path.length - (i + 1)) ++ [(os, sp)] := by
          have e1 : path.length - i = (path.length - 1 - i) + 1 := by omega
          have e2 : path.length - (i + 1) = path.length - 1 - i := by omega
          rw [e1, e2, List.take_add_one, ep]; rfl
        obtain ⟨ch', he⟩ := ch.inv tk
        have lo := (ch'.facts sm.lf)
        have lo1 := lo.1
        have lo3 := lo.2.2.1
        simp only [leafy] at lo1
        simp only [cnt] at lo3
        have lenos := len_cnts os
        cases dx with
        | tup nt et dt =>
          cases dt with
          | cons da dt =>
            cases dt with
            | cons db dt =>
              cases dt
              cases db
              rename_i ta vo
              obtain ⟨oa, rfl⟩ : ∃ oa, vo = .ref oa := by cases da; exact ⟨_, rfl⟩
              have da0 : Dt (Pp :: av) J (.ref oa) (.tuple os) := da
              refine ⟨ta, _, rfl, SqT.of et, rfl, .ref oa, _, rfl, .int sp, [], rfl, rfl, ?_⟩
              refine ⟨.ref oa, rfl, .int sp, rfl, sp, rfl, sl_take sp da0 tJ fun J1 v1 k1 t1 x1 => ?_⟩
              have epn1 := k1.same pn _ epn
              have dn1 := dn.keep (Keep.of k1)
              refine ⟨.ref pn, rfl, pn, ns, rfl, .inl ⟨SqL.of epn1, fun T nT => ?_⟩⟩
              have xT := Dt.newT t1 nT dn1
              have x1' := x1.kn (o := .tup ns) nT
              have da1 := (da0.keep (Keep.of k1)).kn (o := .tup ns) nT
              have tk1 : (os.take sp).length ≤ os.length := by rw [List.length_take]; omega
              refine cat_any x1' xT (by rw [sizeLine_eq]; omega) t1.upd fun J2 v2 k2' t2' x2 => ?_
              have da2 := da1.keep (Keep.of k2')
              refine ⟨.ref oa, rfl, .int sp, rfl, sp, 1, rfl, rfl, _, rfl, ?_⟩
              dsimp only [tNoPart]
              rw [show ((sp : Int) + 1) = ((sp + 1 : Nat) : Int) from rfl]
              refine sl_drop (sp + 1) da2 t2' fun J3 v3 k3 t3 x3 => ?_
              have x2' := x2.keep (Keep.of k3)
              refine cat_any x2' x3 (by rw [sizeLine_eq, List.length_append, List.length_drop]; omega) t3 fun J4 v4 k4 t4 x4 => ?_
              refine ⟨show 1 ≤ sizeLine by decide, fun l nl => ?_⟩
              obtain ⟨r1, r2, r3⟩ := swap_part he (leafys_mono (by omega) os lo1) l2 dp2 ct2
              refine ⟨_, _, l, [v4], _, .tuple os, rfl, ?_, t4.upd, upd_same, .cons (x4.kn nl) .nil, ch', r1, r2, r3, by show 1 ≤ 2; decide⟩
              exact kJ.trans (k1.trans ((Keep.new nT).trans (k2'.trans (k3.trans (k4.trans (Keep.new nl))))))
      · obtain ⟨s4, s6, pn, ns, ds, e, rfl, kJ, tJ, epn, dn, ch, l2, dp2, ct2, ln2⟩ := p
        rw [ul, Nat.sub_self, List.take_zero] at ch
        have ee := ch.top rfl
        subst ee
        refine ⟨.ref pn, rfl, show 1 ≤ sizeLine by decide, fun z nz => ?_⟩
        have epz : (upd J z (.lst [.non])) pn = some (.lst ns) := by rw [upd_ne (ne_of_none epn nz)]; exact epn
        have nl := dn.len
        refine ⟨pn, z, ns, [.non], rfl, rfl, epz, upd_same, by rw [sizeLine_eq, List.length_singleton]; omega, fun y ny => ?_⟩
        have kk : Keep [] G2 (upd (upd J z (.lst [.non])) y (.lst (ns ++ [.non]))) := kJ.trans ((Keep.new nz).trans (Keep.new ny))
        have d3 := d2.keep kk
        have t3 : Tr (Pp :: av) (upd (upd J z (.lst [.non])) y (.lst (ns ++ [.non]))) := tJ.upd.upd
        have dn3 := (dn.kn (o := .lst [.non]) nz).kn (o := .lst (ns ++ [.non])) ny
        have wk : ∀ z ∈ av, z ∈ Pp :: av := fun z h => List.mem_cons_of_mem _ h
        have fin : ∀ (x : V) (dx : PyData), Dt (Pp :: av) (upd (upd J z (.lst [.non])) y (.lst (ns ++ [.non]))) x dx → leafy (M + 16) dx → dx.depth ≤ m + 2 → cnt dx ≤ 2 * n + 10 → Q x (upd (upd J z (.lst [.non])) y (.lst (ns ++ [.non]))) := fun x dx h1 h2 h3 h4 =>
          q _ x dx (kH2.trans (Keep.of kk)) (d3.mono (by omega)) (h1.less wk) ⟨h2, h3, h4⟩ (fun a ha => t3 a (wk a ha))
        cases dn with
        | nil => exact ⟨y, _, 0, .non, rfl, rfl, SqL.of upd_same, atI_nat (j := 0) rfl, fin .non .none .non (by simp only [leafy]) (by simp only [PyData.depth]; omega) (by simp only [cnt]; omega)⟩
        | cons hx ht =>
          rename_i x xs dx dxs
          refine ⟨y, _, 0, x, rfl, rfl, SqL.of upd_same, atI_nat (j := 0) rfl, ?_⟩
          simp only [leafys] at l2
          simp only [PyData.depthAll] at dp2
          simp only [cnts] at ct2
          exact fin x dx ((hx.kn nz).kn ny) l2.1 (by omega) (by omega)
    · -- one step down
      obtain ⟨path, us, e, ve, s4, rfl, kG, dG, tG, eP, dts, de, ch, hk⟩ := p
      obtain ⟨f1, f2, f3, f4⟩ := ch.facts sm.lf
      have pl : path.length ≤ 20 := by have := sm.dp; omega
      refine ⟨ve, rfl, ve, e, Pp :: av, rfl, de, _, rfl, ite2 (fun t1 => ?_) (fun t1 => ?_)⟩
      rotate_left
      · exact iteF (exit _ _ ⟨path, us, e, ve, s4, rfl, kG, dG.mono (by omega), tG, eP, dts, de, ch⟩)
      refine ⟨ve, rfl, show 0 ≤ sizeLine by decide, fun c nc => ?_⟩
      have de1 := de.kn (o := .tup []) nc
      have d1 := dG.new (o := .tup []) nc
      have k1 := kG.trans (Keep.new (av := [D, R]) (o := .tup []) nc)
      have t1' := tG.upd (p := c) (o := .tup [])
      have eP1 : (upd G c (.tup [])) Pp = some (.lst us) := by rw [upd_ne (ne_of_none eP nc)]; exact eP
      have dts1 := dts.kn (o := .tup []) nc
      obtain ⟨a, txs, ds, e1, e2, tea, tln⟩ : ∃ a txs ds, ve = .ref a ∧ e = .tuple ds ∧ (upd G c (.tup [])) a = some (.tup txs) ∧ txs.length = ds.length := by
        cases de1 <;> first | (cases t1; done) | skip
        rename_i a' xs ds' na ea hs
        exact ⟨a', xs, ds', rfl, rfl, ea, hs.len⟩
      subst e1 e2
      refine ⟨a, c, txs, rfl, rfl, SqT.of tea, SqT.of upd_same, _, rfl, ite2 (fun t2 => ?_) (fun t2 => ?_)⟩
      rotate_left
      · exact iteF (exit _ _ ⟨path, us, .tuple ds, .ref a, s4, rfl, k1, d1.mono (by omega), t1', eP1, dts1, de1, ch⟩)
      have hpos : 0 < ds.length := by
        rw [← tln]
        cases txs with
        | nil => cases t2
        | cons _ _ => exact Nat.succ_pos _
      generalize upd G c (.tup []) = G1 at *
      refine ⟨.ref D, rfl, D, C, R, _, 6, rfl, by decide, by decide, d1, by omega, fun G2 k6 k2 d2 _ _ => ⟨_, 0, rfl, rfl, _, rfl, ite2 (fun t3 => ?_) (fun t3 => ?_)⟩⟩
      rotate_left
      · exact exit _ _ ⟨path, us, .tuple ds, .ref a, s4, rfl, k1.trans k2, d2, t1'.keep k2 d2, k2 Pp _ eP1 (notDR zP.1 zP.2.2), dts1.keep (k2.mono sub), de1.keep (k2.mono sub), ch⟩
      have de2 := de1.keep (k2.mono sub)
      have eP2 := k2 Pp _ eP1 (notDR zP.1 zP.2.2)
      have dts2 := dts1.keep (k2.mono sub)
      have t2' := t1'.keep k2 d2
      cases de2
      rename_i xs na ea hs
      have ln := hs.len
      refine ⟨fun σ' H' => ∃ (path' : List (List PyData × Nat)) (us' : List V) (e' : PyData) (ve' : V) (s4' : Option V), σ' = [some (.ref D), some v, some (.ref Pp), some ve', s4', none, none] ∧ Keep [D, R] H H' ∧ Deck H' D C R (b + 2 * path'.length) ∧ Tr (Pp :: av) H' ∧ H' Pp = some (.lst us') ∧ Dts (Pp :: av) H' us' (path'.map pD) ∧ Dt (Pp :: av) H' ve' e' ∧ Chain d path' e' ∧ e'.depth < k, fun σ' H' p => ?_, ?_⟩
      · obtain ⟨path', us', e', ve', s4', p1, p2, p3, p4, p5, p6, p7, p8, p9⟩ := p
        exact ⟨e'.depth, p9, path', us', e', ve', s4', p1, p2, p3, p4, p5, p6, p7, p8, Nat.le_refl _⟩
      have cd := f3
      have smc := sm.ct
      simp only [cnt] at cd
      have lcd := len_cnts ds
      refine ⟨.ref D, rfl, .ref a, rfl, a, xs, rfl, .inr (SqT.of ea), D, C, R, _, _, rfl, by omega, by omega, d2, by omega, fun G3 sp k3 d3 s0 s1 => ?_⟩
      have eP3 := k3 Pp _ eP2 (notDR zP.1 zP.2.2)
      have dts3 := dts2.keep (k3.mono sub)
      have t3' := t2'.keep k3 d3
      have dA : Dt (Pp :: av) G3 (.ref a) (.tuple ds) := (Dt.tup na ea hs).keep (k3.mono sub)
      refine ⟨.ref Pp, rfl, .inl ⟨rfl, _, SqL.of eP3⟩, .ref a, rfl, .int sp, rfl, show 2 ≤ sizeLine by decide, fun t nt => ?_⟩
      have eP4 : (upd G3 t (.tup [.ref a, .int sp])) Pp = some (.lst us) := by rw [upd_ne (ne_of_none eP3 nt)]; exact eP3
      have ul : us.length = path.length := by rw [dts.len, List.length_map]
      refine ⟨Pp, us, .ref t, rfl, rfl, eP4, by rw [ul]; exact small1000 (by omega), ?_⟩
      have hsp : sp.toNat < ds.length := by omega
      have ee : ds[sp.toNat]? = some (ds[sp.toNat]'hsp) := List.getElem?_eq_getElem hsp
      have kp : Keep (Pp :: av) (upd G3 t (.tup [.ref a, .int sp])) (upd (upd G3 t (.tup [.ref a, .int sp])) Pp (.lst (us ++ [.ref t]))) := Keep.put List.mem_cons_self
      have dA5 := (dA.kn (o := .tup [.ref a, .int sp]) nt).keep kp
      have espn : ((sp.toNat : Nat) : Int) = sp := by omega
      have dT : Dt (Pp :: av) (upd G3 t (.tup [.ref a, .int sp])) (.ref t) (pD (ds, sp.toNat)) := by
        show Dt (Pp :: av) (upd G3 t (.tup [.ref a, .int sp])) (.ref t) (.tuple [.tuple ds, .int ((sp.toNat : Nat) : Int)])
        rw [espn]
        exact Dt.newT t3' nt (.cons dA (.cons (.int sp) .nil))
      cases dA5 with
      | tup na5 ea5 hs5 =>
        rename_i xs5
        obtain ⟨vx, evx, dvx⟩ := hs5.get sp.toNat ee
        refine ⟨.ref a, rfl, .int sp, rfl, a, xs5, sp, vx, rfl, rfl, SqT.of ea5, atI_of s0 evx, ?_⟩
        refine ⟨path ++ [(ds, sp.toNat)], us ++ [.ref t], _, vx, _, rfl, ?_, ?_, t3'.upd.upd, upd_same, ?_, dvx, ch.snoc ee, ?_⟩
        · exact ((k1.trans k2).trans (k3.trans (Keep.new nt))).upd nP
        · rw [List.length_append, List.length_singleton]
          exact ((d3.new nt).other zP.1 zP.2.1 zP.2.2).mono (by omega)
        · rw [List.map_append]
          exact ((dts3.kn nt).app (.cons dT .nil)).keep kp
        · have z := depth_mem (List.getElem_mem hsp)
          simp only [PyData.depth] at hk
          omega
end
end Rw

namespace Rw
open PySem PySem.Spec PyProof.Rows L2
/-! ### what a pipe is, by data -/
def intOf : PyData → Int
  | .int i => i
  | _ => 0
def snd2 : PyData → PyData
  | .tuple [_, y] => y
  | _ => .none
def parts : PyData → List PyData
  | .tuple ds => ds
  | _ => []
def rise (hi : Int) : Int → List PyData → Bool
  | _, [] => true
  | lo, .tuple [x, _] :: ds => within x lo hi && rise hi (intOf x + 1) ds
  | _, _ :: _ => false
def rising (d : PyData) (lo hi : Int) : Bool := match d with
  | .tuple ds => rise hi lo ds
  | _ => false
def flapW : PyData → Bool
  | .int i => decide (i = 1) || decide (i = -1)
  | _ => false
def narr (l : Int) (d : PyData) : Bool := rising d 1 (l - 1) && (parts d).all fun p => within (snd2 p) 1 1000000
def flps (l : Int) (d : PyData) : Bool := rising d 0 (l - 1) && (parts d).all fun p => flapW (snd2 p)
def isPipeB (r : Int) (d : PyData) : Bool := match d with
  | .tuple [o, t, l, na, fl] => within t 1 (r - 1) && within o 0 (intOf t - 1) && within l 1 1000000000000 && narr (intOf l) na && flps (intOf l) fl
  | _ => false
theorem within_int {d : PyData} {lo hi : Int} (h : within d lo hi = true) : ∃ i, d = .int i ∧ lo ≤ i ∧ i ≤ hi := by
  cases d <;> first | (cases h; done) | skip
  rename_i i
  have := (Bool.and_eq_true _ _).mp (show (decide (lo ≤ i) && decide (i ≤ hi)) = true from h)
  exact ⟨i, rfl, of_decide_eq_true this.1, of_decide_eq_true this.2⟩
theorem rise_pairs {hi : Int} : ∀ {ds : List PyData} {lo : Int}, rise hi lo ds = true → ∀ p ∈ ds, ∃ a y, p = .tuple [.int a, y]
  | [], _, _, p, m => nomatch m
  | d :: ds, lo, h, p, m => by
    unfold rise at h
    split at h
    · rename_i e
      cases e
    · rename_i e
      cases e
      rw [Bool.and_eq_true] at h
      obtain ⟨i, e, _⟩ := within_int h.1
      subst e
      rcases List.mem_cons.mp m with m | m
      · rw [m]; exact ⟨_, _, rfl⟩
      · exact rise_pairs h.2 p m
    · cases h
structure Cst (mg : Str → Option Value) : Prop where
  rooms : ∃ t, mg "ROOMS" = some (.int 16 t)
  long : ∃ t, mg "LONG" = some (.int 1000000000000 t)
  wide : ∃ t, mg "WIDE" = some (.int 1000000 t)
  narrows : ∃ t, mg "NARROWS" = some (.int 12 t)
  flaps : ∃ t, mg "FLAPS" = some (.int 6 t)
  reach : ∃ t, mg "REACH" = some (.int 100000000000000 t)
  knots : ∃ t, mg "KNOTS" = some (.int 4 t)
  tail : ∃ t, mg "TAIL" = some (.int 0 t)
  head : ∃ t, mg "HEAD" = some (.int 1 t)
section
variable {P : Program} {w : World} {K : PySem.W.Frag} {mg : Str → Option Value} {base : Heap}
abbrev sRising : Stmt := topS 14
abbrev sIsPipe : Stmt := topS 17
abbrev sNarrows : Stmt := topS 18
abbrev sFlaps : Stmt := topS 19
abbrev sFlapWay : Stmt := topS 20
theorem scFlapWay : FnScope ["thing"] ["thing"] (defScope sFlapWay) := ⟨rfl, rfl, rfl, by decide +kernel, rfl, by decide +kernel, by decide +kernel⟩
theorem scRising : FnScope ["thing", "low", "high", "least", "pair"] ["thing", "low", "high"] (defScope sRising) := ⟨rfl, rfl, rfl, by decide +kernel, rfl, by decide +kernel, by decide +kernel⟩
theorem scNarrows : FnScope ["length", "thing", "pair"] ["length", "thing"] (defScope sNarrows) := ⟨rfl, rfl, rfl, by decide +kernel, rfl, by decide +kernel, by decide +kernel⟩
theorem scFlaps : FnScope ["length", "thing", "pair"] ["length", "thing"] (defScope sFlaps) := ⟨rfl, rfl, rfl, by decide +kernel, rfl, by decide +kernel, by decide +kernel⟩
theorem scIsPipe : FnScope ["rooms", "thing", "one", "other", "length", "narrows", "flaps"] ["rooms", "thing"] (defScope sIsPipe) := ⟨rfl, rfl, rfl, by decide +kernel, rfl, by decide +kernel, by decide +kernel⟩
def spFlapWay : Sp := fun vs H Q _ => ∃ (v : V) (d : PyData) (av : List Addr), vs = [v] ∧ Dt av H v d ∧ ∀ H', Keep [] H H' → Q (.bl (flapW d)) H'
theorem ok_flapWay (h : Has K mg "is_flap_way" sFlapWay) (C : Can P w K mg base "is_whole" ["thing"] 1 spWhole) : Can P w K mg base "is_flap_way" ["thing"] 2 spFlapWay := by
  obtain ⟨f, fd, F, g⟩ := h
  refine ⟨f, fd, F.ok (k := 1) scFlapWay (fun vs H Q E h => ?_) (fun cdv A outer s H vs Q E hr h => ?_), g, F.kp, F.binds fun _ _ _ _ _ _ us hl => match us, hl with | [_], _ => rfl⟩
  · obtain ⟨v, d, av, rfl, _⟩ := h
    rfl
  · obtain ⟨v, d, av, rfl, hd, q⟩ := h
    refine ⟨_, pss_one (ps_ret (pe_and (pe_can C hr (by rfl) (pa_cons (pv 0) pa_nil)) (pe_one (pe_cmpR op_in_seq (pv 0) (pe_tup (pa_cons pe_int (pa_cons (pe_un un_neg pe_int) pa_nil))) (by rfl))))), ?_⟩
    refine ⟨v, rfl, v, d, av, rfl, hd, _, rfl, ite2 (fun e => ?_) (fun e => ?_)⟩
    · cases hd <;> first | (cases e; done) | skip
      rename_i i
      refine ⟨.int i, rfl, 1, rfl, show 2 ≤ sizeLine by decide, fun t nt => ?_⟩
      refine ⟨t, [.int 1, .int (-1)], rfl, .inr (SqT.of upd_same), rfl, rfl, ?_⟩
      have z : (if false = true then !inV (.int i) [.int 1, .int (-1)] else inV (.int i) [.int 1, .int (-1)]) = flapW (.int i) := by
        show ([V.int 1, V.int (-1)].any fun y => eqV y (.int i)) = (decide (i = 1) || decide (i = -1))
        simp only [List.any_cons, List.any_nil, Bool.or_false]
        show (_ || _) = _
        unfold eqV
        simp only [beq_iff_eq, decide_eq_decide]
        congr 1 <;> (first | rfl | (apply Bool.eq_iff_iff.mpr; simp; omega) | (by_cases h : i = 1 <;> simp [h] <;> omega))
      have := q _ (Keep.new (o := .tup [.int 1, .int (-1)]) nt)
      rw [← z] at this
      exact this
    · have z : false = flapW d := by cases d <;> first | rfl | exact absurd rfl e
      have := q H (Keep.refl _ _)
      rw [← z] at this; exact this
end
end Rw

namespace Rw
open PySem PySem.Spec PyProof.Rows L2
theorem ix_tupK {X : Cx} {K : PySem.W.Frag} (h : X.K = K) : IxR X (rIxT K) := by subst h; exact ix_tup
theorem nt_true {b : Bool} (h : ¬ (!b) = true) : b = true := by cases b <;> simp_all
theorem nt_false {b : Bool} (h : (!b) = true) : b = false := by cases b <;> simp_all
theorem tup_two {d : PyData} (h : tupOf d 2 = true) : ∃ x y, d = .tuple [x, y] := by
  cases d <;> first | (cases h; done) | skip
  rename_i ds
  have e : (ds.length : Int) = 2 := of_decide_eq_true h
  match ds, e with
  | [x, y], _ => exact ⟨x, y, rfl⟩
  | [], e => exact absurd e (by decide)
  | [_], e => simp at e
  | _ :: _ :: _ :: _, e => rw [List.length_cons, List.length_cons, List.length_cons] at e; omega
theorem rise_no {hi lo : Int} {d : PyData} {ds : List PyData} (h : tupOf d 2 = false) : rise hi lo (d :: ds) = false := by
  unfold rise
  split
  · rename_i e; cases e
  · rename_i e; cases e; cases h
  · rfl
section
variable {P : Program} {w : World} {K : PySem.W.Frag} {mg : Str → Option Value} {base : Heap}
def spRising : Sp := fun vs H Q _ => ∃ (v : V) (d : PyData) (av : List Addr) (lo hi : Int), vs = [v, .int lo, .int hi] ∧ Dt av H v d ∧ Q (.bl (rising d lo hi)) H
theorem ok_rising (h : Has K mg "are_rising_pairs" sRising) (B : Blt mg) (CT : Can P w K mg base "is_tuple_of" ["thing", "many"] 1 spTupOf) (CW : Can P w K mg base "is_within" ["thing", "low", "high"] 2 spWithin) :
    Can P w K mg base "are_rising_pairs" ["thing", "low", "high"] 3 spRising := by
  obtain ⟨f, fd, F, g⟩ := h
  refine ⟨f, fd, F.ok (k := 2) scRising (fun vs H Q E h => ?_) (fun cdv A outer s H vs Q E hr h => ?_), g, F.kp, F.binds fun _ _ _ _ _ _ us hl => match us, hl with | [_, _, _], _ => rfl⟩
  · obtain ⟨v, d, av, lo, hi, rfl, _⟩ := h
    rfl
  · obtain ⟨v, d, av, lo, hi, rfl, hd, q⟩ := h
    refine ⟨_, pss_cons (ps_if (pt_not (pt_val (pe_callB (call_isD kit_tup) (by rfl) B.isi boot_isinstance (pa_cons (pv 0) (pa_cons (pe_bltn (v := .ty "tuple") (by rfl) B.tuple_ boot_tuple rfl) pa_nil))))) (pss_one (ps_ret pe_bl)) pss_nil)
      (pss_cons (ps_set (i := 3) scRising.nd rfl (.inl rfl) (pv 1))
      (pss_cons (ps_for PassesOwn.never rfl (pi_tup (pv 0)) (pg_name (i := 4) scRising.nd rfl (Or.inl rfl))
      (pss_cons (ps_if (PW.pt (pw_or (pt_not (pt_val (pe_can CT (hr.mono (by decide)) (by rfl) (pa_cons (pv 4) (pa_cons pe_int pa_nil))))) (pw_or1 (pt_not (pt_val (pe_can CW (hr.mono (by decide)) (by rfl) (pa_cons (pe_ix ix_tup (pv 4) pe_int (fun _ _ => rfl)) (pa_cons (pv 3) (pa_cons (pv 2) pa_nil))))))))) (pss_one (ps_ret pe_bl)) pss_nil)
      (pss_one (ps_set (i := 3) scRising.nd rfl (.inl rfl) (pe_op op_add (pe_ix ix_tup (pv 4) pe_int (fun _ _ => rfl)) pe_int)))))
      (pss_one (ps_ret pe_bl)))), ?_⟩
    refine ⟨v, rfl, v, d, av, rfl, hd, _, rfl, ite2 (fun e => ?_) (fun e => ?_)⟩
    · have z : false = rising d lo hi := by cases d <;> first | rfl | cases e
      rw [← z] at q; exact q
    · have e' := nt_true e
      cases hd <;> first | (cases e'; done) | skip
      rename_i a xs ds na ea hs
      refine ⟨.int lo, rfl, .ref a, rfl, a, rfl, ⟨_, SqT.of ea⟩, for_tup (K := K) (a := a) (xs := xs)
        (fun i σ G => ∃ (lo' : Int) (s4 : Option V), σ = [some (.ref a), some (.int lo), some (.int hi), some (.int lo'), s4] ∧ G = H ∧ rise hi lo ds = rise hi lo' (ds.drop i))
        ⟨lo, none, rfl, rfl, rfl⟩ (fun i σ G _ p => ?_) (fun i x σ G hx p => ?_) (fun σ G p => ?_)⟩
      · obtain ⟨_, _, _, rfl, _⟩ := p
        exact SqT.of ea
      · obtain ⟨lo', s4, rfl, rfl, hr'⟩ := p
        obtain ⟨p, hp, dp⟩ := hs.getv i hx
        have hi' : i < ds.length := (List.getElem?_eq_some_iff.mp hp).1
        have ed : ds.drop i = p :: ds.drop (i + 1) := by
          rw [← List.getElem_cons_drop hi', (List.getElem?_eq_some_iff.mp hp).2]
        rw [ed] at hr'
        refine ⟨x, rfl, x, p, av, 2, rfl, dp, _, rfl, ite2 (fun t => ?_) (fun t => ?_)⟩
        · have z : rising (.tuple ds) lo hi = false := by
            show rise hi lo ds = false
            rw [hr']; exact rise_no (nt_false t)
          rw [z] at q; exact q
        · obtain ⟨px, py, rfl⟩ := tup_two (nt_true t)
          have hrr : rise hi lo ds = (within px lo' hi && rise hi (intOf px + 1) (ds.drop (i + 1))) := hr'
          cases dp with
          | tup na2 ea2 hs2 =>
            obtain ⟨vx, ex, dx⟩ := hs2.get 0 (d := px) rfl
            refine ⟨_, rfl, _, _, 0, vx, rfl, rfl, SqT.of ea2, atI_nat (j := 0) ex, .int lo', rfl, .int hi, rfl, vx, px, av, lo', hi, rfl, dx, _, rfl, ite2 (fun t2 => ?_) (fun t2 => ?_)⟩
            · have z : rising (.tuple ds) lo hi = false := by
                show rise hi lo ds = false
                rw [hrr, nt_false t2, Bool.false_and]
              rw [z] at q; exact q
            · have t3 := nt_true t2
              obtain ⟨j, rfl, _⟩ := within_int t3
              cases dx
              refine ⟨_, rfl, _, _, 0, .int j, rfl, rfl, SqT.of ea2, atI_nat (j := 0) ex, j, 1, rfl, rfl, ?_⟩
              refine ⟨j + 1, _, rfl, rfl, ?_⟩
              rw [hrr, t3, Bool.true_and]; rfl
      · obtain ⟨lo', s4, rfl, rfl, hr'⟩ := p
        have z : rising (.tuple ds) lo hi = true := by
          show rise hi lo ds = true
          rw [hr', hs.len, List.drop_of_length_le (Nat.le_refl _)]; rfl
        rw [z] at q; exact q
theorem all_of {f : PyData → Bool} {ds : List PyData} {bs : List Bool} (h : bs = ds.map f) : bs.all id = ds.all f := by
  subst h
  induction ds with
  | nil => rfl
  | cons d ds ih => rw [List.map_cons, List.all_cons, List.all_cons, ih]; rfl
def spNarr : Sp := fun vs H Q _ => ∃ (v : V) (d : PyData) (av : List Addr) (l : Int), vs = [.int l, v] ∧ Dt av H v d ∧ (parts d).length ≤ 100000 ∧ ∀ H', Keep [] H H' → Q (.bl (narr l d)) H'
def spFlps : Sp := fun vs H Q _ => ∃ (v : V) (d : PyData) (av : List Addr) (l : Int), vs = [.int l, v] ∧ Dt av H v d ∧ (parts d).length ≤ 100000 ∧ ∀ H', Keep [] H H' → Q (.bl (flps l d)) H'
theorem ok_narr (h : Has K mg "are_narrows" sNarrows) (B : Blt mg) (ma : mg "all" = none) (cs : Cst mg) (CR : Can P w K mg base "are_rising_pairs" ["thing", "low", "high"] 3 spRising) (CW : Can P w K mg base "is_within" ["thing", "low", "high"] 2 spWithin) :
    Can P w K mg base "are_narrows" ["length", "thing"] 4 spNarr := by
  obtain ⟨f, fd, F, g⟩ := h
  obtain ⟨tw, hw⟩ := cs.wide
  refine ⟨f, fd, F.ok (k := 3) scNarrows (fun vs H Q E h => ?_) (fun cdv A outer s H vs Q E hr h => ?_), g, F.kp, F.binds fun _ _ _ _ _ _ us hl => match us, hl with | [_, _], _ => rfl⟩
  · obtain ⟨v, d, av, l, rfl, _⟩ := h
    rfl
  · obtain ⟨v, d, av, l, rfl, hd, few, q⟩ := h
    refine ⟨_, pss_cons (ps_if (pt_not (pt_val (pe_can CR (hr.mono (by decide)) (by rfl) (pa_cons (pv 1) (pa_cons pe_int (pa_cons (pe_op op_sub (pv 0) pe_int) pa_nil)))))) (pss_one (ps_ret pe_bl)) pss_nil)
      (pss_one (ps_ret (pe_callB (cr_all rfl) (by rfl) ma boot_all (pa_cons (pe_lc (own := [("pair", 2)]) (g := gName 2) (tt := tYes) rfl scNarrows.nd (pi_tup (pv 1)) (blkOk_by (N := ["length", "thing", "pair"]) (sc := defScope sNarrows) (by decide +kernel)) (fun _ _ _ _ _ => pg_name (i := 2) scNarrows.nd rfl (Or.inl rfl)) (fun _ _ _ _ _ => pts_nil) (fun _ _ _ _ _ => (pe_can CW (hr.mono (by decide)) (by rfl) (pa_cons (pe_ix (ix_tupK (K := K) rfl) (pv 2) pe_int (fun _ _ => rfl)) (pa_cons pe_int (pa_cons (pe_glob (v := .int 1000000) (by rfl) hw ⟨_, rfl⟩) pa_nil)))))) pa_nil)))), ?_⟩
    refine ⟨v, rfl, .int l, rfl, l, 1, rfl, rfl, v, d, av, 1, l - 1, rfl, hd, _, rfl, ite2 (fun e => ?_) (fun e => ?_)⟩
    · have z : narr l d = false := by unfold narr; rw [nt_false e, Bool.false_and]
      have := q H (Keep.refl _ _)
      rw [z] at this; exact this
    · have e' := nt_true e
      have dsome : ∃ ds, d = .tuple ds ∧ rise (l - 1) 1 ds = true := by
        cases d <;> first | (cases e'; done) | skip
        exact ⟨_, rfl, e'⟩
      obtain ⟨ds, rfl, hrise⟩ := dsome
      cases hd with
      | tup na ea hs =>
        rename_i a xs
        have prs := rise_pairs hrise
        have fw : ds.length ≤ 100000 := few
        refine ⟨_, rfl, a, rfl, ⟨_, SqT.of ea⟩, fun W nW => ?_⟩
        refine lc_tup (K := K) (a := a) (xs := xs) (fun i J => Keep [] H J ∧ J W = some (.lst (((ds.take i).map (fun p => within (snd2 p) 1 1000000)).map V.bl)))
          ⟨Keep.new nW, upd_same⟩ (fun i J _ p => SqT.of (p.1.same a _ ea)) (fun i x J hx p => ?_) (fun J p => ?_)
        · obtain ⟨kJ, eJ⟩ := p
          obtain ⟨p, hp, dp⟩ := hs.getv i hx
          have hi : i < ds.length := (List.getElem?_eq_some_iff.mp hp).1
          obtain ⟨pa, py, rfl⟩ := prs p (List.mem_of_getElem? hp)
          cases dp.keep (Keep.of kJ) with
          | tup na2 ea2 hs2 =>
            obtain ⟨vy, ey, dy⟩ := hs2.get 1 (d := py) rfl
            refine ⟨rfl, _, rfl, _, _, 1, vy, rfl, rfl, SqT.of ea2, atI_nat (j := 1) ey, vy, py, av, 1, 1000000, rfl, dy, _, eJ, by rw [List.length_map, List.length_map, List.length_take, sizeLine_eq]; omega, kJ.upd nW, ?_⟩
            rw [upd_same, List.take_add_one, hp, List.map_append, List.map_append]; rfl
        · obtain ⟨kJ, eJ⟩ := p
          rw [hs.len, List.take_of_length_le (Nat.le_refl _)] at eJ
          refine ⟨W, ds.map (fun p => within (snd2 p) 1 1000000), rfl, SqL.of eJ, ?_⟩
          have z : narr l (.tuple ds) = (ds.map (fun p => within (snd2 p) 1 1000000)).all id := by
            unfold narr
            rw [e', Bool.true_and, all_of rfl]; rfl
          have := q J kJ
          rw [z] at this; exact this
theorem ok_flps (h : Has K mg "are_flaps" sFlaps) (B : Blt mg) (ma : mg "all" = none) (CR : Can P w K mg base "are_rising_pairs" ["thing", "low", "high"] 3 spRising) (CW : Can P w K mg base "is_flap_way" ["thing"] 2 spFlapWay) :
    Can P w K mg base "are_flaps" ["length", "thing"] 4 spFlps := by
  obtain ⟨f, fd, F, g⟩ := h
  refine ⟨f, fd, F.ok (k := 3) scFlaps (fun vs H Q E h => ?_) (fun cdv A outer s H vs Q E hr h => ?_), g, F.kp, F.binds fun _ _ _ _ _ _ us hl => match us, hl with | [_, _], _ => rfl⟩
  · obtain ⟨v, d, av, l, rfl, _⟩ := h
    rfl
  · obtain ⟨v, d, av, l, rfl, hd, few, q⟩ := h
    refine ⟨_, pss_cons (ps_if (pt_not (pt_val (pe_can CR (hr.mono (by decide)) (by rfl) (pa_cons (pv 1) (pa_cons pe_int (pa_cons (pe_op op_sub (pv 0) pe_int) pa_nil)))))) (pss_one (ps_ret pe_bl)) pss_nil)
      (pss_one (ps_ret (pe_callB (cr_all rfl) (by rfl) ma boot_all (pa_cons (pe_lc (own := [("pair", 2)]) (g := gName 2) (tt := tYes) rfl scFlaps.nd (pi_tup (pv 1)) (blkOk_by (N := ["length", "thing", "pair"]) (sc := defScope sFlaps) (by decide +kernel)) (fun _ _ _ _ _ => pg_name (i := 2) scFlaps.nd rfl (Or.inl rfl)) (fun _ _ _ _ _ => pts_nil) (fun _ _ _ _ _ => (pe_can CW (hr.mono (by decide)) (by rfl) (pa_cons (pe_ix (ix_tupK (K := K) rfl) (pv 2) pe_int (fun _ _ => rfl)) pa_nil)))) pa_nil)))), ?_⟩
    refine ⟨v, rfl, .int l, rfl, l, 1, rfl, rfl, v, d, av, 0, l - 1, rfl, hd, _, rfl, ite2 (fun e => ?_) (fun e => ?_)⟩
    · have z : flps l d = false := by unfold flps; rw [nt_false e, Bool.false_and]
      have := q H (Keep.refl _ _)
      rw [z] at this; exact this
    · have e' := nt_true e
      have dsome : ∃ ds, d = .tuple ds ∧ rise (l - 1) 0 ds = true := by
        cases d <;> first | (cases e'; done) | skip
        exact ⟨_, rfl, e'⟩
      obtain ⟨ds, rfl, hrise⟩ := dsome
      cases hd with
      | tup na ea hs =>
        rename_i a xs
        have prs := rise_pairs hrise
        have fw : ds.length ≤ 100000 := few
        refine ⟨_, rfl, a, rfl, ⟨_, SqT.of ea⟩, fun W nW => ?_⟩
        refine lc_tup (K := K) (a := a) (xs := xs) (fun i J => Keep [] H J ∧ J W = some (.lst (((ds.take i).map (fun p => flapW (snd2 p))).map V.bl)))
          ⟨Keep.new nW, upd_same⟩ (fun i J _ p => SqT.of (p.1.same a _ ea)) (fun i x J hx p => ?_) (fun J p => ?_)
        · obtain ⟨kJ, eJ⟩ := p
          obtain ⟨p, hp, dp⟩ := hs.getv i hx
          have hi : i < ds.length := (List.getElem?_eq_some_iff.mp hp).1
          obtain ⟨pa, py, rfl⟩ := prs p (List.mem_of_getElem? hp)
          cases dp.keep (Keep.of kJ) with
          | tup na2 ea2 hs2 =>
            obtain ⟨vy, ey, dy⟩ := hs2.get 1 (d := py) rfl
            refine ⟨rfl, _, rfl, _, _, 1, vy, rfl, rfl, SqT.of ea2, atI_nat (j := 1) ey, vy, py, av, rfl, dy, fun J2 k2 => ?_⟩
            have eJ2 := k2.same W _ eJ
            refine ⟨_, eJ2, by rw [List.length_map, List.length_map, List.length_take, sizeLine_eq]; omega, (kJ.trans k2).upd nW, ?_⟩
            rw [upd_same, List.take_add_one, hp, List.map_append, List.map_append]; rfl
        · obtain ⟨kJ, eJ⟩ := p
          rw [hs.len, List.take_of_length_le (Nat.le_refl _)] at eJ
          refine ⟨W, ds.map (fun p => flapW (snd2 p)), rfl, SqL.of eJ, ?_⟩
          have z : flps l (.tuple ds) = (ds.map (fun p => flapW (snd2 p))).all id := by
            unfold flps
            rw [e', Bool.true_and, all_of rfl]; rfl
          have := q J kJ
          rw [z] at this; exact this
end
end Rw

namespace Rw
open PySem PySem.Spec PyProof.Rows L2
theorem tup_five {d : PyData} (h : tupOf d 5 = true) : ∃ a b c x y, d = .tuple [a, b, c, x, y] := by
  cases d <;> first | (cases h; done) | skip
  rename_i ds
  have e : (ds.length : Int) = 5 := of_decide_eq_true h
  match ds, e with
  | [a, b, c, x, y], _ => exact ⟨a, b, c, x, y, rfl⟩
  | [], e => exact absurd e (by decide)
  | [_], e => simp at e
  | [_, _], e => simp at e
  | [_, _, _], e => simp at e
  | [_, _, _, _], e => simp at e
  | _ :: _ :: _ :: _ :: _ :: _ :: _, e => simp only [List.length_cons] at e; omega
def edD : PyData → Ed
  | .tuple (.int x :: .int y :: _) => (x.toNat, y.toNat)
  | _ => (0, 0)
def naL : PyData → Nat
  | .tuple [_, _, _, na, _] => (parts na).length
  | _ => 0
def flL : PyData → Nat
  | .tuple [_, _, _, _, fl] => (parts fl).length
  | _ => 0
def fewB (ps : List PyData) : Bool := decide ((ps.map naL).sum ≤ 12) && decide ((ps.map flL).sum ≤ 6)
theorem pipe_form {r : Int} {d : PyData} (h : isPipeB r d = true) : ∃ x y l na fl, d = .tuple [.int x, .int y, .int l, .tuple na, .tuple fl] ∧ 0 ≤ x ∧ x < y ∧ y ≤ r - 1 ∧ 1 ≤ l ∧ l ≤ 1000000000000 := by
  unfold isPipeB at h
  split at h
  · rename_i o t l na fl
    simp only [Bool.and_eq_true] at h
    obtain ⟨⟨⟨⟨h1, h2⟩, h3⟩, h4⟩, h5⟩ := h
    obtain ⟨y, rfl, y1, y2⟩ := within_int h1
    obtain ⟨x, rfl, x1, x2⟩ := within_int h2
    obtain ⟨z, rfl, z1, z2⟩ := within_int h3
    have n1 : ∃ ns, na = .tuple ns := by
      unfold narr at h4
      rw [Bool.and_eq_true] at h4
      have := h4.1
      cases na <;> first | (cases this; done) | skip
      exact ⟨_, rfl⟩
    have n2 : ∃ ns, fl = .tuple ns := by
      unfold flps at h5
      rw [Bool.and_eq_true] at h5
      have := h5.1
      cases fl <;> first | (cases this; done) | skip
      exact ⟨_, rfl⟩
    obtain ⟨ns, rfl⟩ := n1
    obtain ⟨fs, rfl⟩ := n2
    simp only [intOf] at x2
    exact ⟨x, y, z, ns, fs, rfl, x1, by omega, y2, z1, z2⟩
  · cases h
section
variable {P : Program} {w : World} {K : PySem.W.Frag} {mg : Str → Option Value} {base : Heap}
abbrev sHouseP : Stmt := topS 16
abbrev sJoins : Stmt := topS 21
abbrev sFew : Stmt := topS 22
abbrev nJoins : List Str := ["rooms", "pipes", "groups", "pipe", "kept", "gone", "group"]
theorem scJoins : FnScope nJoins ["rooms", "pipes"] (defScope sJoins) := ⟨rfl, rfl, rfl, by decide +kernel, rfl, by decide +kernel, by decide +kernel⟩
theorem scFew : FnScope ["pipes", "narrows", "flaps", "pipe"] ["pipes"] (defScope sFew) := ⟨rfl, rfl, rfl, by decide +kernel, rfl, by decide +kernel, by decide +kernel⟩
theorem scHouseP : FnScope ["thing", "rooms", "pipes", "pipe"] ["thing"] (defScope sHouseP) := ⟨rfl, rfl, rfl, by decide +kernel, rfl, by decide +kernel, by decide +kernel⟩
def spIsPipe : Sp := fun vs H Q _ => ∃ (v : V) (d : PyData) (av : List Addr) (r : Int), vs = [.int r, v] ∧ Dt av H v d ∧ cnt d ≤ 100000 ∧ ∀ H', Keep [] H H' → Q (.bl (isPipeB r d)) H'
theorem parts_len (d : PyData) : (parts d).length ≤ cnt d := by
  cases d <;> first | (show 0 ≤ _; exact Nat.zero_le _) | skip
  rename_i ds
  have := len_cnts ds
  simp only [cnt]
  show ds.length ≤ _
  omega
theorem ok_isPipe (h : Has K mg "is_pipe" sIsPipe) (cs : Cst mg) (CT : Can P w K mg base "is_tuple_of" ["thing", "many"] 1 spTupOf) (CW : Can P w K mg base "is_within" ["thing", "low", "high"] 2 spWithin)
    (CA : Can P w K mg base "are_narrows" ["length", "thing"] 4 spNarr) (CF : Can P w K mg base "are_flaps" ["length", "thing"] 4 spFlps) : Can P w K mg base "is_pipe" ["rooms", "thing"] 5 spIsPipe := by
  obtain ⟨f, fd, F, g⟩ := h
  obtain ⟨tw, hw⟩ := cs.long
  refine ⟨f, fd, F.ok (k := 4) scIsPipe (fun vs H Q E h => ?_) (fun cdv A outer s H vs Q E hr h => ?_), g, F.kp, F.binds fun _ _ _ _ _ _ us hl => match us, hl with | [_, _], _ => rfl⟩
  · obtain ⟨v, d, av, r, rfl, _⟩ := h
    rfl
  · obtain ⟨v, d, av, r, rfl, hd, few, q⟩ := h
    refine ⟨_, pss_cons (ps_if (pt_not (pt_val (pe_can CT (hr.mono (by decide)) (by rfl) (pa_cons (pv 1) (pa_cons pe_int pa_nil))))) (pss_one (ps_ret pe_bl)) pss_nil)
      (pss_cons (ps_asg (pv 1) (pg_tup (by rfl) (pgs_cons (pg_name (i := 2) scIsPipe.nd rfl (.inl rfl)) (pgs_cons (pg_name (i := 3) scIsPipe.nd rfl (.inl rfl)) (pgs_cons (pg_name (i := 4) scIsPipe.nd rfl (.inl rfl)) (pgs_cons (pg_name (i := 5) scIsPipe.nd rfl (.inl rfl)) (pgs_cons (pg_name (i := 6) scIsPipe.nd rfl (.inl rfl)) pgs_nil)))))))
      (pss_cons (ps_if (PW.pt (pw_or (pt_not (pt_val (pe_can CW (hr.mono (by decide)) (by rfl) (pa_cons (pv 3) (pa_cons pe_int (pa_cons (pe_op op_sub (pv 0) pe_int) pa_nil)))))) (pw_or1 (pt_not (pt_val (pe_can CW (hr.mono (by decide)) (by rfl) (pa_cons (pv 2) (pa_cons pe_int (pa_cons (pe_op op_sub (pv 3) pe_int) pa_nil))))))))) (pss_one (ps_ret pe_bl)) pss_nil)
      (pss_cons (ps_if (pt_not (pt_val (pe_can CW (hr.mono (by decide)) (by rfl) (pa_cons (pv 4) (pa_cons pe_int (pa_cons (pe_glob (v := .int 1000000000000) (by rfl) hw ⟨_, rfl⟩) pa_nil)))))) (pss_one (ps_ret pe_bl)) pss_nil)
      (pss_one (ps_ret (pe_and (pe_can CA (hr.mono (by decide)) (by rfl) (pa_cons (pv 4) (pa_cons (pv 5) pa_nil))) (pe_one (pe_can CF (hr.mono (by decide)) (by rfl) (pa_cons (pv 4) (pa_cons (pv 6) pa_nil)))))))))), ?_⟩
    refine ⟨v, rfl, v, d, av, 5, rfl, hd, _, rfl, ite2 (fun e => ?_) (fun e => ?_)⟩
    · have z : isPipeB r d = false := by
        have e' := nt_false e
        unfold isPipeB
        split
        · cases e'
        · rfl
      have := q H (Keep.refl _ _)
      rw [z] at this; exact this
    · obtain ⟨o, t, l, na, fl, rfl⟩ := tup_five (nt_true e)
      simp only [cnt, cnts] at few
      have zz : isPipeB r (.tuple [o, t, l, na, fl]) = (within t 1 (r - 1) && within o 0 (intOf t - 1) && within l 1 1000000000000 && narr (intOf l) na && flps (intOf l) fl) := rfl
      rw [zz] at q
      cases hd with
      | tup nb eb hs =>
        cases hs with
        | cons d1 hs => cases hs with
          | cons d2 hs => cases hs with
            | cons d3 hs => cases hs with
              | cons d4 hs => cases hs with
                | cons d5 hs =>
                  cases hs
                  rename_i v1 v2 v3 v4 v5
                  refine ⟨_, rfl, _, _, rfl, SqT.of eb, rfl, v1, _, rfl, v2, _, rfl, v3, _, rfl, v4, _, rfl, v5, [], rfl, rfl, ?_⟩
                  refine ⟨v2, rfl, .int r, rfl, r, 1, rfl, rfl, v2, t, av, 1, r - 1, rfl, d2, _, rfl, ite2 (fun e1 => ?_) (fun e1 => ?_)⟩
                  · have := q H (Keep.refl _ _)
                    rw [nt_false e1, Bool.false_and, Bool.false_and, Bool.false_and, Bool.false_and] at this; exact this
                  · have e1' := nt_true e1
                    obtain ⟨y, rfl, _⟩ := within_int e1'
                    cases d2
                    refine ⟨v1, rfl, .int y, rfl, y, 1, rfl, rfl, v1, o, av, 0, y - 1, rfl, d1, _, rfl, ite2 (fun e2 => ?_) (fun e2 => ?_)⟩
                    · have := q H (Keep.refl _ _)
                      rw [e1', show within o 0 (intOf (.int y) - 1) = false from nt_false e2, Bool.true_and, Bool.false_and, Bool.false_and, Bool.false_and] at this; exact this
                    · have e2' : within o 0 (intOf (.int y) - 1) = true := nt_true e2
                      refine ⟨v3, rfl, v3, l, av, 1, 1000000000000, rfl, d3, _, rfl, ite2 (fun e3 => ?_) (fun e3 => ?_)⟩
                      · have := q H (Keep.refl _ _)
                        rw [e1', e2', nt_false e3, Bool.true_and, Bool.true_and, Bool.false_and, Bool.false_and] at this; exact this
                      · have e3' := nt_true e3
                        obtain ⟨z, rfl, _⟩ := within_int e3'
                        cases d3
                        rw [e1', e2', e3', Bool.true_and, Bool.true_and, Bool.true_and] at q
                        have l4 := parts_len na
                        have l5 := parts_len fl
                        refine ⟨.int z, rfl, v4, rfl, v4, na, av, z, rfl, d4, by omega, fun H1 k1 => ⟨_, rfl, ite2 (fun e4 => ?_) (fun e4 => ?_)⟩⟩
                        · refine ⟨.int z, rfl, v5, rfl, v5, fl, av, z, rfl, d5.keep (Keep.of k1), by omega, fun H2 k2 => ?_⟩
                          have := q H2 (k1.trans k2)
                          rw [show narr (intOf (.int z)) na = true from e4, Bool.true_and] at this; exact this
                        · have := q H1 k1
                          rw [show narr (intOf (.int z)) na = false from Bool.eq_false_iff.mpr e4, Bool.false_and] at this; exact this
def spJoins : Sp := fun vs H Q _ => ∃ (v : V) (ps : List PyData) (av : List Addr) (r : Int), vs = [.int r, v] ∧ Dt av H v (.tuple ps) ∧ 1 ≤ r ∧ r ≤ 16 ∧ (∀ p ∈ ps, isPipeB r p = true) ∧ ∀ H', Keep [] H H' → Q (.bl (joins (Rw.start r.toNat) (ps.map edD))) H'
theorem at_grp {gs : List Int} {x : Int} (h0 : 0 ≤ x) (h : x < gs.length) : atI (gs.map V.int) x = some (.int (grp gs x.toNat)) := by
  refine atI_of h0 ?_
  rw [List.getElem?_map, List.getElem?_eq_getElem (by omega)]
  unfold grp
  rw [List.getD_eq_getElem?_getD, List.getElem?_eq_getElem (by omega)]; rfl
theorem rg_start {r : Int} (h : 0 ≤ r) : rgV 0 r = (Rw.start r.toNat).map V.int := by
  unfold rgV Rw.start
  rw [List.map_map, Int.sub_zero]
  apply List.map_congr_left
  intro a _
  show V.int (0 + (a : Int)) = V.int (Int.ofNat a)
  rw [Int.zero_add]; rfl
theorem ok_joins (h : Has K mg "joins_all" sJoins) (B : Blt mg) : Can P w K mg base "joins_all" ["rooms", "pipes"] 1 spJoins := by
  obtain ⟨f, fd, F, g⟩ := h
  refine ⟨f, fd, F.ok (k := 0) scJoins (fun vs H Q E h => ?_) (fun cdv A outer s H vs Q E hr h => ?_), g, F.kp, F.binds fun _ _ _ _ _ _ us hl => match us, hl with | [_, _], _ => rfl⟩
  · obtain ⟨v, ps, av, r, rfl, _⟩ := h
    rfl
  · obtain ⟨v, ps, av, r, rfl, hd, r1, r16, okp, q⟩ := h
    refine ⟨_, pss_cons (ps_set (i := 2) scJoins.nd rfl (.inl rfl) (pe_listRg rfl (by rfl) B.list_ (prg_1 (by rfl) B.range_ (pv 0))))
      (pss_cons (ps_for PassesOwn.never rfl (pi_tup (pv 1)) (pg_name (i := 3) scJoins.nd rfl (Or.inl rfl))
      (pss_cons (ps_set (i := 4) scJoins.nd rfl (.inr rfl) (pe_ix ix_list (pv 2) (pe_ix ix_tup (pv 3) pe_int (fun _ _ => rfl)) (fun _ _ => rfl)))
      (pss_cons (ps_set (i := 5) scJoins.nd rfl (.inr rfl) (pe_ix ix_list (pv 2) (pe_ix ix_tup (pv 3) pe_int (fun _ _ => rfl)) (fun _ _ => rfl)))
      (pss_cons (ps_if (pt_cmpR op_eq (pv 4) (pv 5) (nomark _)) (pss_one (ps_ret pe_bl)) pss_nil)
      (pss_one (ps_setLc (i := 2) (own := [("group", 6)]) (g := gName 6) (tt := tYes) rfl scJoins.nd rfl rfl (sw_true rfl rfl rfl (by decide +kernel)) (pi_list (pv 2)) (blkOk_by (N := nJoins) (sc := defScope sJoins) (by decide +kernel)) (fun _ _ _ _ _ => pg_name (i := 6) scJoins.nd rfl (Or.inl rfl)) (fun _ _ _ _ _ => pts_nil) (fun _ _ _ _ _ => (pe_ifExp (pt_cmpR op_eq (pv 6) (pv 5) (nomark _)) (pv 4) (pv 6)))))))))
      (pss_one (ps_ret pe_bl))), ?_⟩
    cases hd with
    | tup na ea hs =>
      rename_i a xs
      refine ⟨.int r, rfl, r, rfl, RgOk.of_le (by decide) (by omega) (by decide) (by omega), fun g0 ng0 => ?_⟩
      rw [rg_start (by omega)]
      have k0 : Keep [] H (upd H g0 (.lst ((Rw.start r.toNat).map V.int))) := Keep.new ng0
      refine ⟨.ref a, rfl, a, rfl, ⟨_, SqT.of (k0.same a _ ea)⟩, for_tup (K := K) (a := a) (xs := xs)
        (fun i σ G => ∃ (gs : List Int) (ga : Addr) (s3 s4 s5 : Option V), σ = [some (.int r), some (.ref a), some (.ref ga), s3, s4, s5, none] ∧ Keep [] H G ∧ G ga = some (.lst (gs.map V.int)) ∧ Gs r.toNat gs ∧ joins (Rw.start r.toNat) (ps.map edD) = joins gs ((ps.map edD).drop i))
        ⟨_, g0, none, none, none, rfl, k0, upd_same, Gs.start _, rfl⟩ (fun i σ G _ p => ?_) (fun i x σ G hx p => ?_) (fun σ G p => ?_)⟩
      · obtain ⟨_, _, _, _, _, _, kG, _⟩ := p
        exact SqT.of (kG.same a _ ea)
      · obtain ⟨gs, ga, s3, s4, s5, rfl, kG, eg, hgs, hj⟩ := p
        obtain ⟨p, hp, dp⟩ := (hs.keep (Keep.of kG)).getv i hx
        have hi : i < ps.length := (List.getElem?_eq_some_iff.mp hp).1
        obtain ⟨px, py, pl, pn, pf, rfl, b1, b2, b3, b4, b5⟩ := pipe_form (okp p (List.mem_of_getElem? hp))
        have ed : (ps.map edD).drop i = (px.toNat, py.toNat) :: (ps.map edD).drop (i + 1) := by
          have hm : (ps.map edD)[i]? = some (px.toNat, py.toNat) := by rw [List.getElem?_map, hp]; rfl
          have hi' : i < (ps.map edD).length := (List.getElem?_eq_some_iff.mp hm).1
          rw [← List.getElem_cons_drop hi', (List.getElem?_eq_some_iff.mp hm).2]
        rw [ed] at hj
        cases dp with
        | tup nb eb hb =>
          rename_i pa pxs
          obtain ⟨ux, e0, ux'⟩ := hb.get 0 (d := .int px) rfl
          cases ux'
          obtain ⟨uy, e1, uy'⟩ := hb.get 1 (d := .int py) rfl
          cases uy'
          have gl := hgs.len
          refine ⟨.ref ga, rfl, .ref pa, rfl, pa, _, 0, .int px, rfl, rfl, SqT.of eb, atI_nat (j := 0) e0, ga, _, px, _, rfl, rfl, SqL.of eg, at_grp b1 (by omega), ?_⟩
          refine ⟨.ref ga, rfl, .ref pa, rfl, pa, _, 1, .int py, rfl, rfl, SqT.of eb, atI_nat (j := 1) e1, ga, _, py, _, rfl, rfl, SqL.of eg, at_grp (by omega) (by omega), ?_⟩
          have hj' : joins (Rw.start r.toNat) (ps.map edD) = if grp gs px.toNat = grp gs py.toNat then false else joins (Rw.step gs (px.toNat, py.toNat)) ((ps.map edD).drop (i + 1)) := hj
          refine ⟨_, rfl, _, rfl, rfl, _, rfl, ite2 (fun t => ?_) (fun t => ?_)⟩
          · have t' : grp gs px.toNat = grp gs py.toNat := V.int.inj (of_decide_eq_true t)
            have := q G kG
            rw [hj', if_pos t'] at this; exact this
          · have t' : grp gs px.toNat ≠ grp gs py.toNat := fun z => t (decide_eq_true (by rw [z]))
            rw [if_neg t'] at hj'
            refine ⟨.ref ga, rfl, ga, rfl, ⟨_, SqL.of eg⟩, fun W nW => ?_⟩
            refine lc_list (K := K) (a := ga) (xs := gs.map V.int) (fun j J => Keep [] G J ∧ J W = some (.lst (((gs.take j).map fun v => if v = grp gs py.toNat then grp gs px.toNat else v).map V.int)))
              ⟨Keep.new nW, upd_same⟩ (fun j J _ p => SqL.of (p.1.same ga _ eg)) (fun j z J hz p => ?_) (fun J p => ?_)
            · obtain ⟨kJ, eJ⟩ := p
              rw [List.getElem?_map] at hz
              obtain ⟨n, hn, rfl⟩ := Option.map_eq_some_iff.mp hz
              have hj2 : j < gs.length := (List.getElem?_eq_some_iff.mp hn).1
              refine ⟨rfl, .int n, rfl, _, rfl, rfl, _, rfl, ?_⟩
              have fin : ∀ (y : Int), y = (if n = grp gs py.toNat then grp gs px.toNat else n) → ∃ acc, J W = some (.lst acc) ∧ acc.length < sizeLine ∧ Keep [] G (upd J W (.lst (acc ++ [.int y]))) ∧ upd J W (.lst (acc ++ [.int y])) W = some (.lst (((gs.take (j + 1)).map fun v => if v = grp gs py.toNat then grp gs px.toNat else v).map V.int)) := fun y hy => by
                refine ⟨_, eJ, by rw [List.length_map, List.length_map, List.length_take]; exact small1000 (by omega), kJ.upd nW, ?_⟩
                rw [upd_same, List.take_add_one, hn, List.map_append, List.map_append, hy]; rfl
              refine ite2 (fun c => ?_) (fun c => ?_)
              · exact ⟨_, rfl, fin _ (by rw [if_pos (V.int.inj (of_decide_eq_true c))])⟩
              · exact ⟨_, rfl, fin _ (by rw [if_neg (fun z => c (decide_eq_true (by rw [z])))])⟩
            · obtain ⟨kJ, eJ⟩ := p
              rw [List.length_map, List.take_of_length_le (Nat.le_refl _)] at eJ
              refine ⟨Rw.step gs (px.toNat, py.toNat), W, _, _, _, rfl, kG.trans kJ, eJ, hgs.step (by show px.toNat < r.toNat; omega) (by show py.toNat < r.toNat; omega), hj'⟩
      · obtain ⟨gs, ga, s3, s4, s5, rfl, kG, eg, hgs, hj⟩ := p
        have := q G kG
        rw [hj, hs.len, List.drop_of_length_le (by rw [List.length_map]; exact Nat.le_refl _)] at this
        exact this
end
end Rw

namespace Rw
open PySem PySem.Spec PyProof.Rows L2
theorem call_lenK {X : Cx} {K : PySem.W.Frag} (h : X.K = K) : CallR X (.builtin "len") (fun xs H Q => ∃ p ys, xs = [.ref p] ∧ (SqL K H p ys ∨ SqT K H p ys) ∧ Q (.int (ys.length : Nat)) H) := by subst h; exact call_len_seq
theorem sum_ints (ns : List Nat) : (ns.map fun (n : Nat) => (n : Int)).sum = ((ns.sum : Nat) : Int) := by
  induction ns with
  | nil => rfl
  | cons n ns ih => rw [List.map_cons, List.sum_cons, List.sum_cons, ih]; omega
section
variable {P : Program} {w : World} {K : PySem.W.Frag} {mg : Str → Option Value} {base : Heap}
def spFew : Sp := fun vs H Q _ => ∃ (v : V) (ps : List PyData) (av : List Addr) (r : Int), vs = [v] ∧ Dt av H v (.tuple ps) ∧ ps.length ≤ 1000 ∧ (∀ p ∈ ps, isPipeB r p = true) ∧ ∀ H', Keep [] H H' → Q (.bl (fewB ps)) H'
theorem ok_few (h : Has K mg "holds_few" sFew) (B : Blt mg) (ms : mg "sum" = none) (cs : Cst mg) : Can P w K mg base "holds_few" ["pipes"] 1 spFew := by
  obtain ⟨f, fd, F, g⟩ := h
  obtain ⟨t1, h1⟩ := cs.narrows
  obtain ⟨t2, h2⟩ := cs.flaps
  refine ⟨f, fd, F.ok (k := 0) scFew (fun vs H Q E h => ?_) (fun cdv A outer s H vs Q E hr h => ?_), g, F.kp, F.binds fun _ _ _ _ _ _ us hl => match us, hl with | [_], _ => rfl⟩
  · obtain ⟨v, ps, av, r, rfl, _⟩ := h
    rfl
  · obtain ⟨v, ps, av, r, rfl, hd, few, okp, q⟩ := h
    refine ⟨_, pss_cons (ps_set (i := 1) scFew.nd rfl (.inl rfl) (pe_callB (cr_sum rfl) (by rfl) ms boot_sum (pa_cons (pe_lc (own := [("pipe", 3)]) (g := gName 3) (tt := tYes) rfl scFew.nd (pi_tup (pv 0)) (blkOk_by (N := ["pipes", "narrows", "flaps", "pipe"]) (sc := defScope sFew) (by decide +kernel)) (fun _ _ _ _ _ => pg_name (i := 3) scFew.nd rfl (Or.inl rfl)) (fun _ _ _ _ _ => pts_nil) (fun _ _ _ _ _ => (pe_callB (call_lenK (K := K) rfl) (by rfl) B.len_ PySem.boot_len (pa_cons (pe_ix (ix_tupK (K := K) rfl) (pv 3) pe_int (fun _ _ => rfl)) pa_nil)))) pa_nil)))
      (pss_cons (ps_set (i := 2) scFew.nd rfl (.inl rfl) (pe_callB (cr_sum rfl) (by rfl) ms boot_sum (pa_cons (pe_lc (own := [("pipe", 3)]) (g := gName 3) (tt := tYes) rfl scFew.nd (pi_tup (pv 0)) (blkOk_by (N := ["pipes", "narrows", "flaps", "pipe"]) (sc := defScope sFew) (by decide +kernel)) (fun _ _ _ _ _ => pg_name (i := 3) scFew.nd rfl (Or.inl rfl)) (fun _ _ _ _ _ => pts_nil) (fun _ _ _ _ _ => (pe_callB (call_lenK (K := K) rfl) (by rfl) B.len_ PySem.boot_len (pa_cons (pe_ix (ix_tupK (K := K) rfl) (pv 3) pe_int (fun _ _ => rfl)) pa_nil)))) pa_nil)))
      (pss_one (ps_ret (pe_and (pe_cmpR op_le (pv 1) (pe_glob (v := .int 12) (by rfl) h1 ⟨_, rfl⟩) (nomark _)) (pe_one (pe_cmpR op_le (pv 2) (pe_glob (v := .int 6) (by rfl) h2 ⟨_, rfl⟩) (nomark _))))))), ?_⟩
    cases hd with
    | tup na ea hs =>
      rename_i a xs
      refine ⟨.ref a, rfl, a, rfl, ⟨_, SqT.of ea⟩, fun W nW => ?_⟩
      refine lc_tup (K := K) (a := a) (xs := xs) (fun j J => Keep [] H J ∧ J W = some (.lst ((((ps.take j).map naL).map fun (n : Nat) => (n : Int)).map V.int)))
        ⟨Keep.new nW, upd_same⟩ (fun j J _ p => SqT.of (p.1.same a _ ea)) (fun j x J hx p => ?_) (fun J p => ?_)
      · obtain ⟨kJ, eJ⟩ := p
        obtain ⟨p, hp, dp⟩ := (hs.keep (Keep.of kJ)).getv j hx
        have hi : j < ps.length := (List.getElem?_eq_some_iff.mp hp).1
        obtain ⟨px, py, pl, pn, pf, rfl, _⟩ := pipe_form (okp p (List.mem_of_getElem? hp))
        cases dp with
        | tup nb eb hb =>
          obtain ⟨u3, e3, d3⟩ := hb.get 3 (d := .tuple pn) rfl
          cases d3 with
          | tup nc ec hc =>
            refine ⟨rfl, _, rfl, _, _, 3, _, rfl, rfl, SqT.of eb, atI_nat (j := 3) e3, _, _, rfl, .inr (SqT.of ec), _, eJ, by rw [List.length_map, List.length_map, List.length_map, List.length_take]; exact small1000 (by omega), kJ.upd nW, ?_⟩
            rw [upd_same, List.take_add_one, hp, List.map_append, List.map_append, List.map_append, hc.len]; rfl
      · obtain ⟨kJ, eJ⟩ := p
        rw [hs.len, List.take_of_length_le (Nat.le_refl _)] at eJ
        refine ⟨W, _, rfl, SqL.of eJ, ?_⟩
        rw [sum_ints]
        refine ⟨.ref a, rfl, a, rfl, ⟨_, SqT.of (kJ.same a _ ea)⟩, fun W2 nW2 => ?_⟩
        refine lc_tup (K := K) (a := a) (xs := xs) (fun j L => Keep [] J L ∧ L W2 = some (.lst ((((ps.take j).map flL).map fun (n : Nat) => (n : Int)).map V.int)))
          ⟨Keep.new nW2, upd_same⟩ (fun j L _ p => SqT.of ((kJ.trans p.1).same a _ ea)) (fun j x L hx p => ?_) (fun L p => ?_)
        · obtain ⟨kL, eL⟩ := p
          obtain ⟨p, hp, dp⟩ := (hs.keep (Keep.of (kJ.trans kL))).getv j hx
          have hi : j < ps.length := (List.getElem?_eq_some_iff.mp hp).1
          obtain ⟨px, py, pl, pn, pf, rfl, _⟩ := pipe_form (okp p (List.mem_of_getElem? hp))
          cases dp with
          | tup nb eb hb =>
            obtain ⟨u3, e3, d3⟩ := hb.get 4 (d := .tuple pf) rfl
            cases d3 with
            | tup nc ec hc =>
              refine ⟨rfl, _, rfl, _, _, 4, _, rfl, rfl, SqT.of eb, atI_nat (j := 4) e3, _, _, rfl, .inr (SqT.of ec), _, eL, by rw [List.length_map, List.length_map, List.length_map, List.length_take]; exact small1000 (by omega), kL.upd nW2, ?_⟩
              rw [upd_same, List.take_add_one, hp, List.map_append, List.map_append, List.map_append, hc.len]; rfl
        · obtain ⟨kL, eL⟩ := p
          rw [hs.len, List.take_of_length_le (Nat.le_refl _)] at eL
          refine ⟨W2, _, rfl, SqL.of eL, ?_⟩
          rw [sum_ints]
          have qq := q L (kJ.trans kL)
          unfold fewB at qq
          refine ⟨_, rfl, _, 12, rfl, rfl, _, rfl, ite2 (fun c => ?_) (fun c => ?_)⟩
          · refine ⟨_, rfl, _, 6, rfl, rfl, ?_⟩
            have c' : (ps.map naL).sum ≤ 12 := by have := of_decide_eq_true c; omega
            rw [decide_eq_true c', Bool.true_and] at qq
            have z : decide ((((ps.map flL).sum : Nat) : Int) ≤ 6) = decide ((ps.map flL).sum ≤ 6) := decide_eq_decide.mpr ⟨fun h => by omega, fun h => by omega⟩
            show Q (.bl (decide ((((ps.map flL).sum : Nat) : Int) ≤ 6))) L
            rw [z]; exact qq
          · have c' : ¬ (ps.map naL).sum ≤ 12 := fun h => c (decide_eq_true (by omega))
            rw [decide_eq_false c', Bool.false_and] at qq; exact qq
def isHouseB (d : PyData) : Bool := match d with
  | .tuple [r, .tuple ps] => within r 1 16 && decide ((ps.length : Int) = intOf r - 1) && ps.all (isPipeB (intOf r)) && (joins (Rw.start (intOf r).toNat) (ps.map edD) && fewB ps)
  | _ => false
def spIsHouse : Sp := fun vs H Q _ => ∃ (v : V) (d : PyData) (av : List Addr), vs = [v] ∧ Dt av H v d ∧ cnt d ≤ 100000 ∧ ∀ H', Keep [] H H' → Q (.bl (isHouseB d)) H'
theorem ok_isHouse (h : Has K mg "is_house" sHouseP) (cs : Cst mg) (CT : Can P w K mg base "is_tuple_of" ["thing", "many"] 1 spTupOf) (CW : Can P w K mg base "is_within" ["thing", "low", "high"] 2 spWithin)
    (CP : Can P w K mg base "is_pipe" ["rooms", "thing"] 5 spIsPipe) (CJ : Can P w K mg base "joins_all" ["rooms", "pipes"] 1 spJoins) (CF : Can P w K mg base "holds_few" ["pipes"] 1 spFew) : Can P w K mg base "is_house" ["thing"] 6 spIsHouse := by
  obtain ⟨f, fd, F, g⟩ := h
  obtain ⟨tr, hrm⟩ := cs.rooms
  refine ⟨f, fd, F.ok (k := 5) scHouseP (fun vs H Q E h => ?_) (fun cdv A outer s H vs Q E hr h => ?_), g, F.kp, F.binds fun _ _ _ _ _ _ us hl => match us, hl with | [_], _ => rfl⟩
  · obtain ⟨v, d, av, rfl, _⟩ := h
    rfl
  · obtain ⟨v, d, av, rfl, hd, few, q⟩ := h
    refine ⟨_, pss_cons (ps_if (pt_not (pt_val (pe_can CT (hr.mono (by decide)) (by rfl) (pa_cons (pv 0) (pa_cons pe_int pa_nil))))) (pss_one (ps_ret pe_bl)) pss_nil)
      (pss_cons (ps_asg (pv 0) (pg_tup (by rfl) (pgs_cons (pg_name (i := 1) scHouseP.nd rfl (.inl rfl)) (pgs_cons (pg_name (i := 2) scHouseP.nd rfl (.inl rfl)) pgs_nil))))
      (pss_cons (ps_if (PW.pt (pw_or (pt_not (pt_val (pe_can CW (hr.mono (by decide)) (by rfl) (pa_cons (pv 1) (pa_cons pe_int (pa_cons (pe_glob (v := .int 16) (by rfl) hrm ⟨_, rfl⟩) pa_nil)))))) (pw_or1 (pt_not (pt_val (pe_can CT (hr.mono (by decide)) (by rfl) (pa_cons (pv 2) (pa_cons (pe_op op_sub (pv 1) pe_int) pa_nil)))))))) (pss_one (ps_ret pe_bl)) pss_nil)
      (pss_cons (ps_for PassesOwn.never rfl (pi_tup (pv 2)) (pg_name (i := 3) scHouseP.nd rfl (Or.inl rfl))
      (pss_one (ps_if (pt_not (pt_val (pe_can CP (hr.mono (by decide)) (by rfl) (pa_cons (pv 1) (pa_cons (pv 3) pa_nil))))) (pss_one (ps_ret pe_bl)) pss_nil)))
      (pss_one (ps_ret (pe_and (pe_can CJ (hr.mono (by decide)) (by rfl) (pa_cons (pv 1) (pa_cons (pv 2) pa_nil))) (pe_one (pe_can CF (hr.mono (by decide)) (by rfl) (pa_cons (pv 2) pa_nil))))))))), ?_⟩
    refine ⟨v, rfl, v, d, av, 2, rfl, hd, _, rfl, ite2 (fun e => ?_) (fun e => ?_)⟩
    · have z : isHouseB d = false := by
        have e' := nt_false e
        unfold isHouseB
        split
        · cases e'
        · rfl
      have := q H (Keep.refl _ _)
      rw [z] at this; exact this
    · obtain ⟨r, pp, rfl⟩ := tup_two (nt_true e)
      simp only [cnt, cnts] at few
      cases hd with
      | tup nb eb hs =>
        cases hs with
        | cons d1 hs => cases hs with
          | cons d2 hs =>
            cases hs
            rename_i v1 v2
            refine ⟨_, rfl, _, _, rfl, SqT.of eb, rfl, v1, _, rfl, v2, [], rfl, rfl, ?_⟩
            refine ⟨v1, rfl, v1, r, av, 1, 16, rfl, d1, _, rfl, ite2 (fun e1 => ?_) (fun e1 => ?_)⟩
            · have z : isHouseB (.tuple [r, pp]) = false := by
                unfold isHouseB
                split
                · rename_i heq
                  cases heq
                  rw [nt_false e1, Bool.false_and, Bool.false_and, Bool.false_and]
                · rfl
              have := q H (Keep.refl _ _)
              rw [z] at this; exact this
            · have e1' := nt_true e1
              obtain ⟨n, rfl, n1, n2⟩ := within_int e1'
              cases d1
              refine ⟨v2, rfl, .int n, rfl, n, 1, rfl, rfl, v2, pp, av, n - 1, rfl, d2, _, rfl, ite2 (fun e2 => ?_) (fun e2 => ?_)⟩
              · have z : isHouseB (.tuple [.int n, pp]) = false := by
                  have e2' := nt_false e2
                  unfold isHouseB
                  split
                  · rename_i heq
                    cases heq
                    have e3 : decide (((_ : List PyData).length : Int) = intOf (.int n) - 1) = false := e2'
                    rw [e3, Bool.and_false, Bool.false_and, Bool.false_and]
                  · rfl
                have := q H (Keep.refl _ _)
                rw [z] at this; exact this
              · have e2' := nt_true e2
                have ps' : ∃ ps, pp = .tuple ps := by
                  cases pp <;> first | (cases e2'; done) | skip
                  exact ⟨_, rfl⟩
                obtain ⟨ps, rfl⟩ := ps'
                have e2'' : decide ((ps.length : Int) = intOf (.int n) - 1) = true := e2'
                have lps : (ps.length : Int) = n - 1 := of_decide_eq_true e2'
                have zz : isHouseB (.tuple [.int n, .tuple ps]) = (ps.all (isPipeB n) && (joins (Rw.start n.toNat) (ps.map edD) && fewB ps)) := by
                  show (within (.int n) 1 16 && decide ((ps.length : Int) = intOf (.int n) - 1) && ps.all (isPipeB n) && (joins (Rw.start n.toNat) (ps.map edD) && fewB ps)) = _
                  rw [e1', e2'', Bool.true_and, Bool.true_and]
                rw [zz] at q
                cases d2 with
                | tup nc ec hc =>
                  rename_i a xs
                  refine ⟨_, rfl, a, rfl, ⟨_, SqT.of ec⟩, for_tup (K := K) (a := a) (xs := xs)
                    (fun i σ G => ∃ (s3 : Option V), σ = [some (.ref _), some (.int n), some (.ref a), s3] ∧ Keep [] H G ∧ ∀ p ∈ ps.take i, isPipeB n p = true)
                    ⟨none, rfl, Keep.refl _ _, fun p m => absurd m List.not_mem_nil⟩ (fun i σ G _ p => ?_) (fun i x σ G hx p => ?_) (fun σ G p => ?_)⟩
                  · obtain ⟨_, _, kG, _⟩ := p
                    exact SqT.of (kG.same a _ ec)
                  · obtain ⟨s3, rfl, kG, okp⟩ := p
                    obtain ⟨p, hp, dp⟩ := (hc.keep (Keep.of kG)).getv i hx
                    have cp := cnts_mem (List.mem_of_getElem? hp)
                    simp only [cnt] at few
                    refine ⟨.int n, rfl, x, rfl, x, p, av, n, rfl, dp, by omega, fun G2 k2 => ⟨_, rfl, ite2 (fun t => ?_) (fun t => ?_)⟩⟩
                    · have z : ps.all (isPipeB n) = false := by
                        rw [List.all_eq_false]
                        exact ⟨p, List.mem_of_getElem? hp, by rw [nt_false t]; exact Bool.false_ne_true⟩
                      have := q G2 (kG.trans k2)
                      rw [z, Bool.false_and] at this; exact this
                    · refine ⟨_, rfl, kG.trans k2, fun p' m => ?_⟩
                      rw [List.take_add_one, hp] at m
                      rcases List.mem_append.mp m with m | m
                      · exact okp p' m
                      · rw [List.mem_singleton.mp m]; exact nt_true t
                  · obtain ⟨s3, rfl, kG, okp⟩ := p
                    rw [hc.len, List.take_of_length_le (Nat.le_refl _)] at okp
                    have al : ps.all (isPipeB n) = true := List.all_eq_true.mpr okp
                    rw [al, Bool.true_and] at q
                    have dG : Dt av G (.ref a) (.tuple ps) := (Dt.tup nc ec hc).keep (Keep.of kG)
                    refine ⟨.int n, rfl, .ref a, rfl, .ref a, ps, av, n, rfl, dG, n1, n2, okp, fun G2 k2 => ⟨_, rfl, ite2 (fun t => ?_) (fun t => ?_)⟩⟩
                    · refine ⟨.ref a, rfl, .ref a, ps, av, n, rfl, dG.keep (Keep.of k2), by omega, okp, fun G3 k3 => ?_⟩
                      have := q G3 (kG.trans (k2.trans k3))
                      rw [t, Bool.true_and] at this; exact this
                    · have := q G2 (kG.trans k2)
                      rw [Bool.eq_false_iff.mpr t, Bool.false_and] at this; exact this
end
end Rw

namespace Rw
open PySem PySem.Spec PyProof.Rows L2
section
variable {X : Cx}
/-! xs != [], xs == [], whatever is in xs -/
def rNilL (K : PySem.W.Frag) (neg : Bool) : R2 := fun x y H Q => ∃ a b xs, x = .ref a ∧ y = .ref b ∧ SqL K H a xs ∧ SqL K H b [] ∧ Q (.bl (if neg then !xs.isEmpty else xs.isEmpty)) H
theorem op_neNilL (hu : X.A.units < cLine) : OpR X (compareOp .NotEq) (rNilL X.K true) := by
  intro pins s σ H x y v u Q I rx ry h
  obtain ⟨a, b, xs, rfl, rfl, ha, hb, q⟩ := h
  cases rx
  cases ry
  obtain ⟨its, r, pl, _⟩ := I.list ha
  obtain ⟨its2, r2, pl2, _⟩ := I.list hb
  cases r2
  have fin : EP X pins σ Q (.bool (!xs.isEmpty)) s := ⟨.bl (!xs.isEmpty), H, I, rfl, q⟩
  cases r with
  | nil => exact SeqAt.RcNeAt.lists (A := X.A) (s := s) (e := fun _ => true) pl.isList pl2.isList rfl hu (fun j j1 _ => absurd j1 (Nat.not_lt_zero j)) X.prog X.w X.xe _ fin
  | cons _ _ => exact SeqAt.RcNeAt.lists_lengths (A := X.A) (s := s) pl.isList pl2.isList (by simp) hu X.prog X.w X.xe _ fin
theorem op_eqNilL (hu : X.A.units < cLine) : OpR X (compareOp .Eq) (rNilL X.K false) := by
  intro pins s σ H x y v u Q I rx ry h
  obtain ⟨a, b, xs, rfl, rfl, ha, hb, q⟩ := h
  cases rx
  cases ry
  obtain ⟨its, r, pl, _⟩ := I.list ha
  obtain ⟨its2, r2, pl2, _⟩ := I.list hb
  cases r2
  have fin : EP X pins σ Q (.bool xs.isEmpty) s := ⟨.bl xs.isEmpty, H, I, rfl, q⟩
  cases r with
  | nil => exact SeqAt.RcAt.lists (A := X.A) (s := s) (e := fun _ => true) pl.isList pl2.isList rfl hu (fun j j1 _ => absurd j1 (Nat.not_lt_zero j)) X.prog X.w X.xe _ fin
  | cons _ _ => exact SeqAt.RcAt.lists_lengths (A := X.A) (s := s) pl.isList pl2.isList (by simp) hu X.prog X.w X.xe _ fin
end
/-! pairs that rise, looked at in three goes -/
def isPair (d : PyData) : Bool := aTup d && decide ((parts d).length = 2)
def fst2 : PyData → PyData
  | .tuple [x, _] => x
  | _ => .none
def adj (ds : List PyData) : Bool := (List.range (ds.length - 1)).all fun k => decide (intOf (fst2 (ds.getD k .none)) < intOf (fst2 (ds.getD (k + 1) .none)))
theorem isPair_form {d : PyData} (h : isPair d = true) : ∃ x y, d = .tuple [x, y] := by
  unfold isPair at h
  rw [Bool.and_eq_true] at h
  cases d <;> first | (cases h.1; done) | skip
  rename_i ds
  have e : ds.length = 2 := of_decide_eq_true h.2
  match ds, e with
  | [x, y], _ => exact ⟨x, y, rfl⟩
theorem adj_cons (d e : PyData) (ds : List PyData) : adj (d :: e :: ds) = (decide (intOf (fst2 d) < intOf (fst2 e)) && adj (e :: ds)) := by
  unfold adj
  show (List.range (ds.length + 1)).all _ = _
  rw [List.range_succ_eq_map, List.all_cons, List.all_map]
  rfl
theorem rise_three (hi : Int) : ∀ (ds : List PyData) (lo : Int), rise hi lo ds = (ds.all isPair && (ds.all (fun p => within (fst2 p) lo hi) && adj ds))
  | [], _ => rfl
  | d :: ds, lo => by
    cases hp : isPair d with
    | false =>
      rw [List.all_cons, hp, Bool.false_and, Bool.false_and]
      unfold rise
      split
      · rename_i e; cases e
      · rename_i e; cases e; cases hp
      · rfl
    | true =>
      obtain ⟨x, y, rfl⟩ := isPair_form hp
      have er : rise hi lo (.tuple [x, y] :: ds) = (within x lo hi && rise hi (intOf x + 1) ds) := rfl
      rw [er, rise_three hi ds (intOf x + 1), List.all_cons, List.all_cons, hp, Bool.true_and]
      have ef : fst2 (.tuple [x, y]) = x := rfl
      rw [ef]
      cases hw : within x lo hi with
      | false => simp
      | true =>
        obtain ⟨i, rfl, i1, i2⟩ := within_int hw
        rw [Bool.true_and, Bool.true_and]
        cases hA : ds.all isPair with
        | false => simp
        | true =>
          rw [Bool.true_and, Bool.true_and]
          cases ds with
          | nil => rfl
          | cons e ds =>
            rw [adj_cons]
            have ei : intOf (fst2 (.tuple [.int i, y])) = i := rfl
            rw [ei, List.all_cons, List.all_cons]
            show (within (fst2 e) (i + 1) hi && ds.all (fun p => within (fst2 p) (i + 1) hi) && adj (e :: ds)) = (within (fst2 e) lo hi && ds.all (fun p => within (fst2 p) lo hi) && (decide (i < intOf (fst2 e)) && adj (e :: ds)))
            -- the later ones lie above the first where they rise
            apply Bool.eq_iff_iff.mpr
            simp only [Bool.and_eq_true, List.all_eq_true, decide_eq_true_eq]
            have mono : ∀ (ds : List PyData) (e : PyData) (c : Int), within (fst2 e) c hi = true → (∀ p ∈ ds, ∃ j, fst2 p = .int j ∧ j ≤ hi) → adj (e :: ds) = true → ∀ p ∈ ds, within (fst2 p) c hi = true := by
              intro ds
              induction ds with
              | nil => intro _ _ _ _ _ p m; exact absurd m List.not_mem_nil
              | cons f ds ih =>
                intro e c he hj ha p m
                rw [adj_cons, Bool.and_eq_true] at ha
                obtain ⟨j, ej, jh⟩ := hj f List.mem_cons_self
                obtain ⟨k, ek, k1, k2⟩ := within_int he
                have lt := of_decide_eq_true ha.1
                rw [ek, ej] at lt
                simp only [intOf] at lt
                have hf : within (fst2 f) c hi = true := by
                  rw [ej]
                  show (decide (c ≤ j) && decide (j ≤ hi)) = true
                  rw [decide_eq_true (show c ≤ j by omega), decide_eq_true jh]; rfl
                rcases List.mem_cons.mp m with m | m
                · rw [m]; exact hf
                · exact ih f c hf (fun q mq => hj q (List.mem_cons_of_mem _ mq)) ha.2 p m
            have wk : ∀ (p : PyData) (c c' : Int), c' ≤ c → within p c hi = true → within p c' hi = true := by
              intro p c c' hc h
              obtain ⟨j, rfl, j1, j2⟩ := within_int h
              show (decide (c' ≤ j) && decide (j ≤ hi)) = true
              rw [decide_eq_true (show c' ≤ j by omega), decide_eq_true j2]; rfl
            constructor
            · rintro ⟨⟨h1, h2⟩, h3⟩
              obtain ⟨j, ej, j1, j2⟩ := within_int h1
              exact ⟨⟨wk _ _ _ (by omega) h1, fun p m => wk _ _ _ (by omega) (h2 p m)⟩, by rw [ej]; simp only [intOf]; omega, h3⟩
            · rintro ⟨⟨h1, h2⟩, h3, h4⟩
              obtain ⟨j, ej, j1, j2⟩ := within_int h1
              rw [ej] at h3
              simp only [intOf] at h3
              have h5 : within (fst2 e) (i + 1) hi = true := by
                rw [ej]
                show (decide (i + 1 ≤ j) && decide (j ≤ hi)) = true
                rw [decide_eq_true (show i + 1 ≤ j by omega), decide_eq_true j2]; rfl
              refine ⟨⟨h5, mono ds e (i + 1) h5 (fun p m => ?_) h4⟩, h4⟩
              obtain ⟨k, ek, _, k2⟩ := within_int (h2 p m)
              exact ⟨k, ek, k2⟩
end Rw

namespace Rw
open PySem PySem.Spec PyProof.Rows L2
/-! a comprehension that keeps what is not so: is anything kept? -/
def FI (W : Addr) (H : Hp) (ok : Nat → Bool) (i : Nat) (J : Hp) : Prop := Keep [] H J ∧ ∃ ws, J W = some (.lst ws) ∧ ws.length ≤ i ∧ ws.isEmpty = (List.range i).all ok
theorem st {H : Hp} {p b : Addr} {o u : HO} (n : H p = none) (e : H b = some u) : (upd H p o) b = some u := by rw [upd_ne (ne_of_none e n)]; exact e
theorem FI.start {W : Addr} {H : Hp} {ok : Nat → Bool} (n : H W = none) : FI W H ok 0 (upd H W (.lst [])) := ⟨Keep.new n, [], upd_same, Nat.le_refl _, rfl⟩
theorem FI.skip {W : Addr} {H J : Hp} {ok : Nat → Bool} {i : Nat} (h : FI W H ok i J) (o : ok i = true) : FI W H ok (i + 1) J := by
  obtain ⟨k, ws, e, l, z⟩ := h
  refine ⟨k, ws, e, by omega, ?_⟩
  rw [List.range_succ, List.all_append, z, List.all_cons, o]; simp
theorem FI.put {W : Addr} {H J J2 : Hp} {ok : Nat → Bool} {i : Nat} {x : V} (h : FI W H ok i J) (k2 : Keep [] J J2) (n : H W = none) (hi : i ≤ 100000) (o : ok i = false) : ∃ acc, J2 W = some (.lst acc) ∧ acc.length < sizeLine ∧ FI W H ok (i + 1) (upd J2 W (.lst (acc ++ [x]))) := by
  obtain ⟨k, ws, e, l, z⟩ := h
  refine ⟨ws, k2.same W _ e, by rw [sizeLine_eq]; omega, (k.trans k2).upd n, ws ++ [x], upd_same, by rw [List.length_append, List.length_singleton]; omega, ?_⟩
  rw [List.range_succ, List.all_append, List.all_cons, o]
  cases ws <;> simp
theorem FI.go {W : Addr} {H J J2 : Hp} {ok : Nat → Bool} {i : Nat} (h : FI W H ok i J) (k2 : Keep [] J J2) : FI W H ok i J2 := by
  obtain ⟨k, ws, e, l, z⟩ := h
  exact ⟨k.trans k2, ws, k2.same W _ e, l, z⟩
theorem all_range {ds : List PyData} {f : PyData → Bool} : (List.range ds.length).all (fun i => f (ds.getD i .none)) = ds.all f := by
  induction ds with
  | nil => rfl
  | cons d ds ih =>
    rw [List.length_cons, List.range_succ_eq_map, List.all_cons, List.all_map, List.all_cons, ← ih]; rfl
theorem getD_some {ds : List PyData} {i : Nat} {d : PyData} (h : ds[i]? = some d) : ds.getD i .none = d := by
  rw [List.getD_eq_getElem?_getD, h]; rfl
section
variable {P : Program} {w : World} {K : PySem.W.Frag} {mg : Str → Option Value} {base : Heap}
abbrev sPairs : Stmt := topS 39
abbrev nPairs : List Str := ["_law_thing", "_law_low", "_law_high", "_law_pair", "_law_k"]
theorem scPairs : FnScope nPairs ["_law_thing", "_law_low", "_law_high"] (defScope sPairs) := ⟨rfl, rfl, rfl, by decide +kernel, rfl, by decide +kernel, by decide +kernel⟩
def spPairs : Sp := fun vs H Q _ => ∃ (v : V) (d : PyData) (av : List Addr) (lo hi : Int), vs = [v, .int lo, .int hi] ∧ Dt av H v d ∧ (parts d).length ≤ 100000 ∧ ∀ H', Keep [] H H' → Q (.bl (rising d lo hi)) H'
theorem ok_pairs (h : Has K mg "_law_are_pairs" sPairs) (B : Blt mg) (CF : Can P w K mg base "_law_is_from" ["_law_thing", "_law_low", "_law_high"] 1 spWithin) : Can P w K mg base "_law_are_pairs" ["_law_thing", "_law_low", "_law_high"] 2 spPairs := by
  obtain ⟨f, fd, F, g⟩ := h
  refine ⟨f, fd, F.ok (k := 1) scPairs (fun vs H Q E h => ?_) (fun cdv A outer s H vs Q E hr h => ?_), g, F.kp, F.binds fun _ _ _ _ _ _ us hl => match us, hl with | [_, _, _], _ => rfl⟩
  · obtain ⟨v, d, av, lo, hi, rfl, _⟩ := h
    rfl
  · obtain ⟨v, d, av, lo, hi, rfl, hd, few, q⟩ := h
    refine ⟨_, pss_cons (ps_if (pt_not (pt_val (pe_callB (call_isD kit_tup) (by rfl) B.isi boot_isinstance (pa_cons (pv 0) (pa_cons (pe_bltn (v := .ty "tuple") (by rfl) B.tuple_ boot_tuple rfl) pa_nil))))) (pss_one (ps_ret pe_bl)) pss_nil)
      (pss_cons (ps_if (pt_cmpR (op_neNilL hr.units0) (pe_lc (own := [("_law_pair", 3)]) (g := gName 3) rfl scPairs.nd (pi_tup (pv 0)) (blkOk_by (N := nPairs) (sc := defScope sPairs) (by decide +kernel)) (fun _ _ _ _ _ => pg_name (i := 3) scPairs.nd rfl (Or.inl rfl)) (fun _ _ _ _ _ => pts_one (PW.pt (pw_or (pt_not (pt_val (pe_callB (call_isD kit_tup) (by rfl) B.isi boot_isinstance (pa_cons (pv 3) (pa_cons (pe_bltn (v := .ty "tuple") (by rfl) B.tuple_ boot_tuple rfl) pa_nil))))) (pw_or1 (pt_cmpR op_ne (pe_callB (call_lenK (K := K) rfl) (by rfl) B.len_ PySem.boot_len (pa_cons (pv 3) pa_nil)) pe_int (nomark _)))))) (fun _ _ _ _ _ => (pv 3))) (pe_lst pa_nil) (nomark _)) (pss_one (ps_ret pe_bl)) pss_nil)
      (pss_cons (ps_if (pt_cmpR (op_neNilL hr.units0) (pe_lc (own := [("_law_pair", 3)]) (g := gName 3) rfl scPairs.nd (pi_tup (pv 0)) (blkOk_by (N := nPairs) (sc := defScope sPairs) (by decide +kernel)) (fun _ _ _ _ _ => pg_name (i := 3) scPairs.nd rfl (Or.inl rfl)) (fun _ _ _ _ _ => pts_one (pt_not (pt_val (pe_can CF (hr.mono (by decide)) (by rfl) (pa_cons (pe_ix (ix_tupK (K := K) rfl) (pv 3) pe_int (fun _ _ => rfl)) (pa_cons (pv 1) (pa_cons (pv 2) pa_nil))))))) (fun _ _ _ _ _ => (pv 3))) (pe_lst pa_nil) (nomark _)) (pss_one (ps_ret pe_bl)) pss_nil)
      (pss_one (ps_ret (pe_cmpR (op_eqNilL hr.units0) (pe_lc (own := [("_law_k", 4)]) (g := gName 4) rfl scPairs.nd (pi_range2 (by rfl) B.range_ (pa_cons pe_int (pa_cons (pe_callB call_len_seq (by rfl) B.len_ PySem.boot_len (pa_cons (pv 0) pa_nil)) pa_nil))) (blkOk_by (N := nPairs) (sc := defScope sPairs) (by decide +kernel)) (fun _ _ _ _ _ => pg_name (i := 4) scPairs.nd rfl (Or.inl rfl)) (fun _ _ _ _ _ => pts_one (pt_cmpR op_ge (pe_ix (ix_tupK (K := K) rfl) (pe_ix (ix_tupK (K := K) rfl) (pv 0) (pe_op op_sub (pv 4) pe_int) (fun _ _ => rfl)) pe_int (fun _ _ => rfl)) (pe_ix (ix_tupK (K := K) rfl) (pe_ix (ix_tupK (K := K) rfl) (pv 0) (pv 4) (fun _ _ => rfl)) pe_int (fun _ _ => rfl)) (nomark _))) (fun _ _ _ _ _ => (pv 4))) (pe_lst pa_nil) (nomark _)))))), ?_⟩
    refine ⟨v, rfl, v, d, av, rfl, hd, _, rfl, ite2 (fun e => ?_) (fun e => ?_)⟩
    · have z : rising d lo hi = false := by cases d <;> first | rfl | cases e
      have := q H (Keep.refl _ _)
      rw [z] at this; exact this
    · have e' := nt_true e
      cases hd <;> first | (cases e'; done) | skip
      rename_i a xs ds na ea hs
      have fw : ds.length ≤ 100000 := few
      have zz : rising (.tuple ds) lo hi = (ds.all isPair && (ds.all (fun p => within (fst2 p) lo hi) && adj ds)) := rise_three hi ds lo
      rw [zz] at q
      have lx := hs.len
      -- pairs
      refine ⟨.ref a, rfl, a, rfl, ⟨_, SqT.of ea⟩, fun W nW => ?_⟩
      refine lc_tup (K := K) (a := a) (xs := xs) (FI W H fun i => isPair (ds.getD i .none)) (FI.start nW) (fun i J _ p => SqT.of (p.1.same a _ ea)) (fun i x J hx p => ?_) (fun J p => ?_)
      · obtain ⟨pd, hp, dp⟩ := (hs.keep (Keep.of p.1)).getv i hx
        have hi' : i < ds.length := (List.getElem?_eq_some_iff.mp hp).1
        have gd := getD_some hp
        refine ⟨rfl, x, rfl, x, pd, av, rfl, dp, _, rfl, ite2 (fun t => ?_) (fun t => ?_)⟩
        · refine iteT ⟨x, rfl, p.put (Keep.refl _ _) nW (by omega) ?_⟩
          rw [gd]; unfold isPair; rw [nt_false t, Bool.false_and]
        · have t' := nt_true t
          cases dp <;> first | (cases t'; done) | skip
          rename_i pa pxs pds pn pe phs
          refine ⟨_, rfl, pa, pxs, rfl, .inr (SqT.of pe), rfl, _, rfl, ite2 (fun c => ?_) (fun c => ?_)⟩
          · refine ⟨_, rfl, p.put (Keep.refl _ _) nW (by omega) ?_⟩
            rw [gd]; unfold isPair
            have c' : ¬ V.int ((pxs.length : Nat) : Int) = V.int 2 := of_decide_eq_false (nt_false c)
            rw [show aTup (.tuple pds) = true from rfl, Bool.true_and]
            exact decide_eq_false fun z => c' (by rw [phs.len]; show V.int ((pds.length : Nat) : Int) = _; rw [show pds.length = 2 from z]; rfl)
          · refine p.skip ?_
            rw [gd]; unfold isPair
            have c' : V.int ((pxs.length : Nat) : Int) = V.int 2 := of_decide_eq_true (nt_true c)
            have c2 := V.int.inj c'
            rw [show aTup (.tuple pds) = true from rfl, Bool.true_and]
            exact decide_eq_true (show pds.length = 2 by rw [← phs.len]; omega)
      · obtain ⟨k1, ws, ew, lw, zw⟩ := p
        rw [lx, all_range (f := isPair)] at zw
        refine ⟨show 0 ≤ sizeLine by decide, fun z nz => ?_⟩
        have k2 := k1.trans (Keep.new (av := []) (o := .lst []) nz)
        refine ⟨W, z, ws, rfl, rfl, SqL.of (st nz ew), SqL.of upd_same, _, rfl, ite2 (fun c => ?_) (fun c => ?_)⟩
        · have := q _ k2
          rw [show ds.all isPair = false by rw [← zw]; exact nt_false c, Bool.false_and] at this; exact this
        · have c' : ds.all isPair = true := by rw [← zw]; exact nt_true c
          rw [c', Bool.true_and] at q
          have prs : ∀ p ∈ ds, ∃ x y, p = .tuple [x, y] := fun p m => isPair_form (List.all_eq_true.mp c' p m)
          generalize upd J z (.lst []) = H1 at k2 ⊢
          have ea1 := k2.same a _ ea
          -- from low to high
          refine ⟨.ref a, rfl, a, rfl, ⟨_, SqT.of ea1⟩, fun W2 nW2 => ?_⟩
          refine lc_tup (K := K) (a := a) (xs := xs) (FI W2 H1 fun i => within (fst2 (ds.getD i .none)) lo hi) (FI.start nW2) (fun i J _ p => SqT.of (p.1.same a _ ea1)) (fun i x J hx p => ?_) (fun J p => ?_)
          · obtain ⟨pd, hp, dp⟩ := (hs.keep (Keep.of (k2.trans p.1))).getv i hx
            have hi' : i < ds.length := (List.getElem?_eq_some_iff.mp hp).1
            have gd := getD_some hp
            obtain ⟨px, py, rfl⟩ := prs pd (List.mem_of_getElem? hp)
            cases dp with
            | tup pn pe phs =>
              obtain ⟨vx, ex, dx⟩ := phs.get 0 (d := px) rfl
              refine ⟨rfl, _, rfl, _, _, 0, vx, rfl, rfl, SqT.of pe, atI_nat (j := 0) ex, .int lo, rfl, .int hi, rfl, vx, px, av, lo, hi, rfl, dx, _, rfl, ite2 (fun t => ?_) (fun t => ?_)⟩
              · exact ⟨_, rfl, p.put (Keep.refl _ _) nW2 (by omega) (by rw [gd]; exact nt_false t)⟩
              · exact p.skip (by rw [gd]; exact nt_true t)
          · obtain ⟨k3, ws2, ew2, lw2, zw2⟩ := p
            rw [lx, all_range (f := fun p => within (fst2 p) lo hi)] at zw2
            refine ⟨show 0 ≤ sizeLine by decide, fun z2 nz2 => ?_⟩
            have k4 := (k2.trans k3).trans (Keep.new (av := []) (o := .lst []) nz2)
            refine ⟨W2, z2, ws2, rfl, rfl, SqL.of (st nz2 ew2), SqL.of upd_same, _, rfl, ite2 (fun c2 => ?_) (fun c2 => ?_)⟩
            · have := q _ k4
              rw [show (ds.all fun p => within (fst2 p) lo hi) = false by rw [← zw2]; exact nt_false c2, Bool.false_and] at this; exact this
            · have c2' : (ds.all fun p => within (fst2 p) lo hi) = true := by rw [← zw2]; exact nt_true c2
              rw [c2', Bool.true_and] at q
              have prs2 : ∀ p ∈ ds, ∃ i y, p = .tuple [.int i, y] := fun p m => by
                obtain ⟨x, y, rfl⟩ := prs p m
                obtain ⟨i, e, _⟩ := within_int (List.all_eq_true.mp c2' _ m)
                have e' : x = .int i := e
                subst e'
                exact ⟨i, y, rfl⟩
              generalize upd J z2 (.lst []) = H2 at k4 ⊢
              have ea2 := k4.same a _ ea
              -- rising
              refine ⟨.ref a, rfl, a, xs, rfl, .inr (SqT.of ea2), 1, _, rfl, ⟨by decide, by decide, by omega, by omega⟩, fun W3 nW3 => ?_⟩
              refine lc_range (lo := 1) (n := ((xs.length : Int) - 1).toNat) (FI W3 H2 fun k => decide (intOf (fst2 (ds.getD k .none)) < intOf (fst2 (ds.getD (k + 1) .none)))) (FI.start nW3) (fun j J hj p => ?_) (fun J p => ?_)
              · have hs5 := hs.keep (Keep.of (k4.trans p.1))
                have ea5 := p.1.same a _ ea2
                have l1 : j < ds.length := by omega
                have l2 : j + 1 < ds.length := by omega
                have h1 : ds[j]? = some ds[j] := List.getElem?_eq_getElem l1
                have h2 : ds[j + 1]? = some ds[j + 1] := List.getElem?_eq_getElem l2
                obtain ⟨i1, y1, p1⟩ := prs2 _ (List.getElem_mem l1)
                obtain ⟨i2, y2, p2⟩ := prs2 _ (List.getElem_mem l2)
                obtain ⟨v1, e1, d1⟩ := hs5.get j h1
                obtain ⟨v2, e2, d2⟩ := hs5.get (j + 1) h2
                have g1 := getD_some h1
                have g2 := getD_some h2
                rw [p1] at d1 g1
                rw [p2] at d2 g2
                cases d1 with
                | tup n1 t1 s1 =>
                  cases d2 with
                  | tup n2 t2 s2 =>
                    obtain ⟨u1, f1, w1⟩ := s1.get 0 (d := .int i1) rfl
                    obtain ⟨u2, f2, w2⟩ := s2.get 0 (d := .int i2) rfl
                    cases w1
                    cases w2
                    refine ⟨rfl, .ref a, rfl, .int (1 + (j : Int)), rfl, _, 1, rfl, rfl, a, xs, 1 + (j : Int) - 1, _, rfl, rfl, SqT.of ea5, atI_of (by omega) (by rw [show (1 + (j : Int) - 1).toNat = j by omega]; exact e1), _, _, 0, .int i1, rfl, rfl, SqT.of t1, atI_nat (j := 0) f1,
                      .ref a, rfl, .int (1 + (j : Int)), rfl, a, xs, 1 + (j : Int), _, rfl, rfl, SqT.of ea5, atI_of (by omega) (by rw [show (1 + (j : Int)).toNat = j + 1 by omega]; exact e2), _, _, 0, .int i2, rfl, rfl, SqT.of t2, atI_nat (j := 0) f2, i1, i2, rfl, rfl, _, rfl, ite2 (fun t => ?_) (fun t => ?_)⟩
                    · refine ⟨_, rfl, p.put (Keep.refl _ _) nW3 (by omega) ?_⟩
                      rw [g1, g2]
                      exact decide_eq_false (show ¬ i1 < i2 by have := of_decide_eq_true t; omega)
                    · refine p.skip ?_
                      rw [g1, g2]
                      exact decide_eq_true (show i1 < i2 by have : ¬ i2 ≤ i1 := fun z => t (decide_eq_true z); omega)
              · obtain ⟨k5, ws3, ew3, lw3, zw3⟩ := p
                refine ⟨show 0 ≤ sizeLine by decide, fun z3 nz3 => ?_⟩
                refine ⟨W3, z3, ws3, rfl, rfl, SqL.of (st nz3 ew3), SqL.of upd_same, ?_⟩
                have := q _ ((k4.trans k5).trans (Keep.new (av := []) (o := .lst []) nz3))
                have za : ws3.isEmpty = adj ds := by
                  rw [zw3]
                  unfold adj
                  rw [show ((xs.length : Int) - 1).toNat = ds.length - 1 by omega]
                rw [← za] at this
                exact this
end
end Rw

namespace Rw
open PySem PySem.Spec PyProof.Rows L2
theorem pre_eq (r : Int) (o t : PyData) : (within t 1 (r - 1) && within o 0 (intOf t - 1)) = (within o 0 (r - 1) && (within t 0 (r - 1) && decide (intOf o < intOf t))) := by
  apply Bool.eq_iff_iff.mpr
  simp only [Bool.and_eq_true, decide_eq_true_eq]
  have wi : ∀ (i lo hi : Int), within (.int i) lo hi = true ↔ lo ≤ i ∧ i ≤ hi := fun i lo hi => by
    show (decide (lo ≤ i) && decide (i ≤ hi)) = true ↔ _
    rw [Bool.and_eq_true, decide_eq_true_eq, decide_eq_true_eq]
  constructor
  · rintro ⟨h1, h2⟩
    obtain ⟨y, rfl, y1, y2⟩ := within_int h1
    obtain ⟨x, rfl, x1, x2⟩ := within_int h2
    simp only [intOf] at x2 ⊢
    exact ⟨(wi _ _ _).mpr ⟨x1, by omega⟩, (wi _ _ _).mpr ⟨by omega, y2⟩, by omega⟩
  · rintro ⟨h1, h2, h3⟩
    obtain ⟨x, rfl, x1, x2⟩ := within_int h1
    obtain ⟨y, rfl, y1, y2⟩ := within_int h2
    simp only [intOf] at h3 ⊢
    exact ⟨(wi _ _ _).mpr ⟨by omega, y2⟩, (wi _ _ _).mpr ⟨x1, by omega⟩⟩
theorem flap_eq (y : PyData) : flapW y = (within y (-1) 1 && !decide (intOf y = 0)) := by
  cases y <;> first | rfl | skip
  rename_i i
  show (decide (i = 1) || decide (i = -1)) = ((decide (-1 ≤ i) && decide (i ≤ 1)) && !decide (i = 0))
  apply Bool.eq_iff_iff.mpr
  simp only [Bool.or_eq_true, Bool.and_eq_true, decide_eq_true_eq, Bool.not_eq_true', decide_eq_false_iff_not]
  omega
section
variable {P : Program} {w : World} {K : PySem.W.Frag} {mg : Str → Option Value} {base : Heap}
abbrev sLPipe : Stmt := topS 40
abbrev nLPipe : List Str := ["_law_rooms", "_law_thing", "_law_one_here", "_law_other", "_law_length_here", "_law_narrows", "_law_flaps", "_law_pair"]
theorem scLPipe : FnScope nLPipe ["_law_rooms", "_law_thing"] (defScope sLPipe) := ⟨rfl, rfl, rfl, by decide +kernel, rfl, by decide +kernel, by decide +kernel⟩
theorem ok_lpipe (h : Has K mg "_law_is_pipe" sLPipe) (B : Blt mg) (CF : Can P w K mg base "_law_is_from" ["_law_thing", "_law_low", "_law_high"] 1 spWithin) (CP : Can P w K mg base "_law_are_pairs" ["_law_thing", "_law_low", "_law_high"] 2 spPairs) :
    Can P w K mg base "_law_is_pipe" ["_law_rooms", "_law_thing"] 3 spIsPipe := by
  obtain ⟨f, fd, F, g⟩ := h
  refine ⟨f, fd, F.ok (k := 2) scLPipe (fun vs H Q E h => ?_) (fun cdv A outer s H vs Q E hr h => ?_), g, F.kp, F.binds fun _ _ _ _ _ _ us hl => match us, hl with | [_, _], _ => rfl⟩
  · obtain ⟨v, d, av, r, rfl, _⟩ := h
    rfl
  · obtain ⟨v, d, av, r, rfl, hd, few, q⟩ := h
    refine ⟨_, pss_cons (ps_if (PW.pt (pw_or (pt_not (pt_val (pe_callB (call_isD kit_tup) (by rfl) B.isi boot_isinstance (pa_cons (pv 1) (pa_cons (pe_bltn (v := .ty "tuple") (by rfl) B.tuple_ boot_tuple rfl) pa_nil))))) (pw_or1 (pt_cmpR op_ne (pe_callB call_len_seq (by rfl) B.len_ PySem.boot_len (pa_cons (pv 1) pa_nil)) pe_int (nomark _))))) (pss_one (ps_ret pe_bl)) pss_nil)
      (pss_cons (ps_asg (pv 1) (pg_tup (by rfl) (pgs_cons (pg_name (i := 2) scLPipe.nd rfl (.inl rfl)) (pgs_cons (pg_name (i := 3) scLPipe.nd rfl (.inl rfl)) (pgs_cons (pg_name (i := 4) scLPipe.nd rfl (.inl rfl)) (pgs_cons (pg_name (i := 5) scLPipe.nd rfl (.inl rfl)) (pgs_cons (pg_name (i := 6) scLPipe.nd rfl (.inl rfl)) pgs_nil)))))))
      (pss_cons (ps_if (PW.pt (pw_or (pt_not (pt_val (pe_can CF (hr.mono (by decide)) (by rfl) (pa_cons (pv 2) (pa_cons pe_int (pa_cons (pe_op op_sub (pv 0) pe_int) pa_nil)))))) (pw_or (pt_not (pt_val (pe_can CF (hr.mono (by decide)) (by rfl) (pa_cons (pv 3) (pa_cons pe_int (pa_cons (pe_op op_sub (pv 0) pe_int) pa_nil)))))) (pw_or1 (pt_cmpR op_ge (pv 2) (pv 3) (nomark _)))))) (pss_one (ps_ret pe_bl)) pss_nil)
      (pss_cons (ps_if (pt_not (pt_val (pe_can CF (hr.mono (by decide)) (by rfl) (pa_cons (pv 4) (pa_cons pe_int (pa_cons (pe_op op_pow pe_int pe_int) pa_nil)))))) (pss_one (ps_ret pe_bl)) pss_nil)
      (pss_cons (ps_if (PW.pt (pw_or (pt_not (pt_val (pe_can CP (hr.mono (by decide)) (by rfl) (pa_cons (pv 5) (pa_cons pe_int (pa_cons (pe_op op_sub (pv 4) pe_int) pa_nil)))))) (pw_or1 (pt_not (pt_val (pe_can CP (hr.mono (by decide)) (by rfl) (pa_cons (pv 6) (pa_cons pe_int (pa_cons (pe_op op_sub (pv 4) pe_int) pa_nil))))))))) (pss_one (ps_ret pe_bl)) pss_nil)
      (pss_cons (ps_if (pt_cmpR (op_neNilL hr.units0) (pe_lc (own := [("_law_pair", 7)]) (g := gName 7) rfl scLPipe.nd (pi_tup (pv 5)) (blkOk_by (N := nLPipe) (sc := defScope sLPipe) (by decide +kernel)) (fun _ _ _ _ _ => pg_name (i := 7) scLPipe.nd rfl (Or.inl rfl)) (fun _ _ _ _ _ => pts_one (pt_not (pt_val (pe_can CF (hr.mono (by decide)) (by rfl) (pa_cons (pe_ix (ix_tupK (K := K) rfl) (pv 7) pe_int (fun _ _ => rfl)) (pa_cons pe_int (pa_cons (pe_op op_pow pe_int pe_int) pa_nil))))))) (fun _ _ _ _ _ => (pv 7))) (pe_lst pa_nil) (nomark _)) (pss_one (ps_ret pe_bl)) pss_nil)
      (pss_one (ps_ret (pe_cmpR (op_eqNilL hr.units0) (pe_lc (own := [("_law_pair", 7)]) (g := gName 7) rfl scLPipe.nd (pi_tup (pv 6)) (blkOk_by (N := nLPipe) (sc := defScope sLPipe) (by decide +kernel)) (fun _ _ _ _ _ => pg_name (i := 7) scLPipe.nd rfl (Or.inl rfl)) (fun _ _ _ _ _ => pts_one (PW.pt (pw_or (pt_not (pt_val (pe_can CF (hr.mono (by decide)) (by rfl) (pa_cons (pe_ix (ix_tupK (K := K) rfl) (pv 7) pe_int (fun _ _ => rfl)) (pa_cons (pe_un un_neg pe_int) (pa_cons pe_int pa_nil)))))) (pw_or1 (pt_cmpR op_eq (pe_ix (ix_tupK (K := K) rfl) (pv 7) pe_int (fun _ _ => rfl)) pe_int (nomark _)))))) (fun _ _ _ _ _ => (pv 7))) (pe_lst pa_nil) (nomark _))))))))), ?_⟩
    have no : ∀ {G : Hp}, Keep [] H G → isPipeB r d = false → Q (.bl false) G := fun k z => by
      have := q _ k
      rw [z] at this; exact this
    refine ⟨v, rfl, v, d, av, rfl, hd, _, rfl, ite2 (fun e => ?_) (fun e => ?_)⟩
    · refine no (Keep.refl _ _) ?_
      cases d <;> first | rfl | cases e
    · have e' := nt_true e
      have dsome : ∃ ds, d = .tuple ds := by
        cases d <;> first | (cases e'; done) | skip
        exact ⟨_, rfl⟩
      obtain ⟨ds, rfl⟩ := dsome
      cases hd with
      | tup nb eb hs =>
        rename_i a xs
        refine ⟨_, rfl, a, xs, rfl, .inr (SqT.of eb), rfl, _, rfl, ite2 (fun c => ?_) (fun c => ?_)⟩
        · refine no (Keep.refl _ _) ?_
          have c' : ¬ V.int ((xs.length : Nat) : Int) = V.int 5 := of_decide_eq_false (nt_false c)
          unfold isPipeB
          split
          · rename_i heq
            cases heq
            exact absurd (by rw [hs.len]; rfl) c'
          · rfl
        · have c' : V.int ((xs.length : Nat) : Int) = V.int 5 := of_decide_eq_true (nt_true c)
          have l5 : tupOf (.tuple ds) 5 = true := decide_eq_true (by rw [← hs.len]; exact V.int.inj c')
          obtain ⟨o, t, l, na, fl, e5⟩ := tup_five l5
          cases e5
          simp only [cnt, cnts] at few
          have l4 := parts_len na
          have l5' := parts_len fl
          have zz : isPipeB r (.tuple [o, t, l, na, fl]) = (within o 0 (r - 1) && (within t 0 (r - 1) && decide (intOf o < intOf t)) && within l 1 1000000000000 && narr (intOf l) na && flps (intOf l) fl) := by
            rw [← pre_eq]; rfl
          rw [zz] at q no
          cases hs with
          | cons d1 hs => cases hs with
            | cons d2 hs => cases hs with
              | cons d3 hs => cases hs with
                | cons d4 hs => cases hs with
                  | cons d5 hs =>
                    cases hs
                    rename_i v1 v2 v3 v4 v5
                    refine ⟨_, rfl, _, _, rfl, SqT.of eb, rfl, v1, _, rfl, v2, _, rfl, v3, _, rfl, v4, _, rfl, v5, [], rfl, rfl, ?_⟩
                    refine ⟨v1, rfl, .int r, rfl, r, 1, rfl, rfl, v1, o, av, 0, r - 1, rfl, d1, _, rfl, ite2 (fun t1 => ?_) (fun t1 => ?_)⟩
                    · exact no (Keep.refl _ _) (by rw [nt_false t1]; simp)
                    have t1' := nt_true t1
                    obtain ⟨x, rfl, _⟩ := within_int t1'
                    cases d1
                    refine ⟨v2, rfl, .int r, rfl, r, 1, rfl, rfl, v2, t, av, 0, r - 1, rfl, d2, _, rfl, ite2 (fun t2 => ?_) (fun t2 => ?_)⟩
                    · exact no (Keep.refl _ _) (by rw [nt_false t2]; simp)
                    have t2' := nt_true t2
                    obtain ⟨y, rfl, _⟩ := within_int t2'
                    cases d2
                    refine ⟨.int x, rfl, .int y, rfl, x, y, rfl, rfl, _, rfl, ite2 (fun t3 => ?_) (fun t3 => ?_)⟩
                    · have : ¬ x < y := by have := of_decide_eq_true t3; omega
                      exact no (Keep.refl _ _) (by rw [show decide (intOf (.int x) < intOf (.int y)) = false from decide_eq_false this]; simp)
                    have t3' : decide (intOf (.int x) < intOf (.int y)) = true := decide_eq_true (show x < y by have : ¬ y ≤ x := fun z => t3 (decide_eq_true z); omega)
                    refine ⟨v3, rfl, 10, 12, rfl, rfl, ⟨by decide, by decide, by decide⟩, v3, l, av, 1, _, rfl, d3, _, rfl, ite2 (fun t4 => ?_) (fun t4 => ?_)⟩
                    · exact no (Keep.refl _ _) (by rw [show within l 1 1000000000000 = false from nt_false t4]; simp)
                    have t4' : within l 1 1000000000000 = true := nt_true t4
                    obtain ⟨z, rfl, _⟩ := within_int t4'
                    cases d3
                    rw [t1', t2', t3', t4'] at q no
                    have iz : intOf (.int z) = z := rfl
                    rw [iz] at q no
                    simp only [Bool.true_and] at q no
                    refine ⟨v4, rfl, .int z, rfl, z, 1, rfl, rfl, v4, na, av, 1, z - 1, rfl, d4, by omega, fun H1 k1 => ⟨_, rfl, ite2 (fun t5 => ?_) (fun t5 => ?_)⟩⟩
                    · exact no k1 (by unfold narr; rw [nt_false t5]; simp)
                    have t5' := nt_true t5
                    have d5' := d5.keep (Keep.of k1)
                    refine ⟨v5, rfl, .int z, rfl, z, 1, rfl, rfl, v5, fl, av, 0, z - 1, rfl, d5', by omega, fun H2 k2 => ⟨_, rfl, ite2 (fun t6 => ?_) (fun t6 => ?_)⟩⟩
                    · exact no (k1.trans k2) (by unfold flps; rw [nt_false t6]; simp)
                    have t6' := nt_true t6
                    have k12 := k1.trans k2
                    have n1 : ∃ ns, na = .tuple ns ∧ rise (z - 1) 1 ns = true := by
                      cases na <;> first | (cases t5'; done) | skip
                      exact ⟨_, rfl, t5'⟩
                    have n2 : ∃ ns, fl = .tuple ns ∧ rise (z - 1) 0 ns = true := by
                      cases fl <;> first | (cases t6'; done) | skip
                      exact ⟨_, rfl, t6'⟩
                    obtain ⟨ns, rfl, rn⟩ := n1
                    obtain ⟨fs, rfl, rf⟩ := n2
                    have fn : ns.length ≤ 100000 := by have : (parts (.tuple ns)).length = ns.length := rfl; omega
                    have ff : fs.length ≤ 100000 := by have : (parts (.tuple fs)).length = fs.length := rfl; omega
                    have zN : narr z (.tuple ns) = ns.all fun p => within (snd2 p) 1 1000000 := by unfold narr; rw [t5', Bool.true_and]; rfl
                    have zF : flps z (.tuple fs) = fs.all fun p => flapW (snd2 p) := by unfold flps; rw [t6', Bool.true_and]; rfl
                    rw [zN, zF] at q no
                    have dn := d4.keep (Keep.of k12)
                    have df := d5'.keep (Keep.of k2)
                    cases dn with
                    | tup nn en hn =>
                      rename_i an xn
                      refine ⟨_, rfl, an, rfl, ⟨_, SqT.of en⟩, fun W nW => ?_⟩
                      refine lc_tup (K := K) (a := an) (xs := xn) (FI W H2 fun i => within (snd2 (ns.getD i .none)) 1 1000000) (FI.start nW) (fun i J _ p => SqT.of (p.1.same an _ en)) (fun i x' J hx p => ?_) (fun J p => ?_)
                      · obtain ⟨pd, hp, dp⟩ := (hn.keep (Keep.of p.1)).getv i hx
                        have hi' : i < ns.length := (List.getElem?_eq_some_iff.mp hp).1
                        have gd := getD_some hp
                        obtain ⟨pa, py, rfl⟩ := rise_pairs rn pd (List.mem_of_getElem? hp)
                        cases dp with
                        | tup pn pe phs =>
                          obtain ⟨vy, ey, dy⟩ := phs.get 1 (d := py) rfl
                          refine ⟨rfl, _, rfl, _, _, 1, vy, rfl, rfl, SqT.of pe, atI_nat (j := 1) ey, 10, 6, rfl, rfl, ⟨by decide, by decide, by decide⟩, vy, py, av, 1, _, rfl, dy, _, rfl, ite2 (fun u => ?_) (fun u => ?_)⟩
                          · exact ⟨_, rfl, p.put (Keep.refl _ _) nW (by omega) (by rw [gd]; exact nt_false u)⟩
                          · exact p.skip (by rw [gd]; exact nt_true u)
                      · obtain ⟨k3, ws, ew, lw, zw⟩ := p
                        rw [hn.len, all_range (f := fun p => within (snd2 p) 1 1000000)] at zw
                        refine ⟨show 0 ≤ sizeLine by decide, fun z1 nz1 => ?_⟩
                        have k4 := (k12.trans k3).trans (Keep.new (av := []) (o := .lst []) nz1)
                        refine ⟨W, z1, ws, rfl, rfl, SqL.of (st nz1 ew), SqL.of upd_same, _, rfl, ite2 (fun u => ?_) (fun u => ?_)⟩
                        · exact no k4 (by rw [← zw, nt_false u]; simp)
                        have al : (ns.all fun p => within (snd2 p) 1 1000000) = true := by rw [← zw]; exact nt_true u
                        rw [al, Bool.true_and] at q
                        have k34 := k3.trans (Keep.new (av := []) (o := .lst []) nz1)
                        have df4 := df.keep (Keep.of k34)
                        generalize upd J z1 (.lst []) = H4 at k4 df4 ⊢
                        cases df4 with
                        | tup nf ef hf =>
                          rename_i af xf
                          refine ⟨_, rfl, af, rfl, ⟨_, SqT.of ef⟩, fun W2 nW2 => ?_⟩
                          refine lc_tup (K := K) (a := af) (xs := xf) (FI W2 H4 fun i => flapW (snd2 (fs.getD i .none))) (FI.start nW2) (fun i J _ p => SqT.of (p.1.same af _ ef)) (fun i x' J hx p => ?_) (fun J p => ?_)
                          · obtain ⟨pd, hp, dp⟩ := (hf.keep (Keep.of p.1)).getv i hx
                            have hi' : i < fs.length := (List.getElem?_eq_some_iff.mp hp).1
                            have gd := getD_some hp
                            obtain ⟨pa, py, rfl⟩ := rise_pairs rf pd (List.mem_of_getElem? hp)
                            have gf : flapW (snd2 (fs.getD i .none)) = (within py (-1) 1 && !decide (intOf py = 0)) := by rw [gd]; exact flap_eq py
                            cases dp with
                            | tup pn pe phs =>
                              obtain ⟨vy, ey, dy⟩ := phs.get 1 (d := py) rfl
                              refine ⟨rfl, _, rfl, _, _, 1, vy, rfl, rfl, SqT.of pe, atI_nat (j := 1) ey, 1, rfl, vy, py, av, -1, 1, rfl, dy, _, rfl, ite2 (fun u1 => ?_) (fun u1 => ?_)⟩
                              · exact iteT ⟨_, rfl, p.put (Keep.refl _ _) nW2 (by omega) (by rw [gf, nt_false u1, Bool.false_and])⟩
                              · have u1' := nt_true u1
                                obtain ⟨j, rfl, _⟩ := within_int u1'
                                cases dy
                                refine ⟨_, rfl, _, _, 1, .int j, rfl, rfl, SqT.of pe, atI_nat (j := 1) ey, rfl, _, rfl, ite2 (fun u2 => ?_) (fun u2 => ?_)⟩
                                · have : j = 0 := V.int.inj (of_decide_eq_true u2)
                                  exact ⟨_, rfl, p.put (Keep.refl _ _) nW2 (by omega) (by rw [gf, show decide (intOf (.int j) = 0) = true from decide_eq_true this]; simp)⟩
                                · have : j ≠ 0 := fun z => u2 (decide_eq_true (by rw [z]))
                                  exact p.skip (by rw [gf, u1', show decide (intOf (.int j) = 0) = false from decide_eq_false this]; rfl)
                          · obtain ⟨k5, ws2, ew2, lw2, zw2⟩ := p
                            rw [hf.len, all_range (f := fun p => flapW (snd2 p))] at zw2
                            refine ⟨show 0 ≤ sizeLine by decide, fun z2 nz2 => ?_⟩
                            refine ⟨W2, z2, ws2, rfl, rfl, SqL.of (st nz2 ew2), SqL.of upd_same, ?_⟩
                            have := q _ ((k4.trans k5).trans (Keep.new (av := []) (o := .lst []) nz2))
                            rw [← zw2] at this
                            exact this
end
end Rw

namespace Rw
open PySem PySem.Spec PyProof.Rows L2
theorem rounds_succ (k : Nat) (l : List Int) (E : List Ed) : rounds (k + 1) l E = rounds k (rnd l E) E := rfl
section
variable {P : Program} {w : World} {K : PySem.W.Frag} {mg : Str → Option Value} {base : Heap}
abbrev sJoined : Stmt := topS 41
abbrev sLOne : Stmt := topS 42
abbrev nJoined : List Str := ["_law_rooms", "_law_pipes", "_law_least", "_law_turn", "_law_pipe_here", "_law_low", "_law_room"]
abbrev nLOne : List Str := ["_law_thing", "_law_rooms", "_law_pipes", "_law_pipe_here"]
theorem scJoined : FnScope nJoined ["_law_rooms", "_law_pipes"] (defScope sJoined) := ⟨rfl, rfl, rfl, by decide +kernel, rfl, by decide +kernel, by decide +kernel⟩
theorem scLOne : FnScope nLOne ["_law_thing"] (defScope sLOne) := ⟨rfl, rfl, rfl, by decide +kernel, rfl, by decide +kernel, by decide +kernel⟩
def spJoined : Sp := fun vs H Q _ => ∃ (v : V) (ps : List PyData) (av : List Addr) (r : Int), vs = [.int r, v] ∧ Dt av H v (.tuple ps) ∧ 1 ≤ r ∧ r ≤ 16 ∧ (∀ p ∈ ps, isPipeB r p = true) ∧ ∀ H', Keep [] H H' → Q (.bl (allJ r.toNat (ps.map edD))) H'
theorem ok_joined (h : Has K mg "_law_all_joined" sJoined) (B : Blt mg) : Can P w K mg base "_law_all_joined" ["_law_rooms", "_law_pipes"] 1 spJoined := by
  obtain ⟨f, fd, F, g⟩ := h
  refine ⟨f, fd, F.ok (k := 0) scJoined (fun vs H Q E h => ?_) (fun cdv A outer s H vs Q E hr h => ?_), g, F.kp, F.binds fun _ _ _ _ _ _ us hl => match us, hl with | [_, _], _ => rfl⟩
  · obtain ⟨v, ps, av, r, rfl, _⟩ := h
    rfl
  · obtain ⟨v, ps, av, r, rfl, hd, r1, r16, okp, q⟩ := h
    refine ⟨_, pss_cons (ps_set (i := 2) scJoined.nd rfl (.inr rfl) (pe_listRg rfl (by rfl) B.list_ (prg_1 (by rfl) B.range_ (pv 0))))
      (pss_cons (ps_for PassesOwn.never rfl (pi_range1 (by rfl) B.range_ (pa_cons (pv 0) pa_nil)) (pg_name (i := 3) scJoined.nd rfl (Or.inl rfl))
      (pss_one (ps_for PassesOwn.never rfl (pi_tup (pv 1)) (pg_name (i := 4) scJoined.nd rfl (Or.inl rfl))
      (pss_cons (ps_set (i := 5) scJoined.nd rfl (.inl rfl) (pe_callB (call_min2 rfl) (by rfl) B.min_ boot_min (pa_cons (pe_ix ix_list (pv 2) (pe_ix ix_tup (pv 4) pe_int (fun _ _ => rfl)) (fun _ _ => rfl)) (pa_cons (pe_ix ix_list (pv 2) (pe_ix ix_tup (pv 4) pe_int (fun _ _ => rfl)) (fun _ _ => rfl)) pa_nil))))
      (pss_cons (ps_asg (pv 5) (pg_sub (pv 2) (pe_ix ix_tup (pv 4) pe_int (fun _ _ => rfl)) set_list))
      (pss_one (ps_asg (pv 5) (pg_sub (pv 2) (pe_ix ix_tup (pv 4) pe_int (fun _ _ => rfl)) set_list))))))))
      (pss_one (ps_ret (pe_cmpR (op_eqNilL hr.units0) (pe_lc (own := [("_law_room", 6)]) (g := gName 6) rfl scJoined.nd (pi_range1 (by rfl) B.range_ (pa_cons (pv 0) pa_nil)) (blkOk_by (N := nJoined) (sc := defScope sJoined) (by decide +kernel)) (fun _ _ _ _ _ => pg_name (i := 6) scJoined.nd rfl (Or.inl rfl)) (fun _ _ _ _ _ => pts_one (pt_cmpR op_ne (pe_ix (ix_listK (K := K) rfl) (pv 2) (pv 6) (fun _ _ => rfl)) pe_int (nomark _))) (fun _ _ _ _ _ => (pv 6))) (pe_lst pa_nil) (nomark _))))), ?_⟩
    cases hd with
    | tup na ea hs =>
      rename_i a xs
      refine ⟨.int r, rfl, r, rfl, RgOk.of_le (by decide) (by omega) (by decide) (by omega), fun la nla => ?_⟩
      rw [rg_start (by omega)]
      have k0 : Keep [] H (upd H la (.lst ((Rw.start r.toNat).map V.int))) := Keep.new nla
      have hE : ∀ e ∈ ps.map edD, e.1 < r.toNat ∧ e.2 < r.toNat := fun e m => by
        obtain ⟨p, mp, rfl⟩ := List.mem_map.mp m
        obtain ⟨px, py, pl, pn, pf, rfl, b1, b2, b3, _⟩ := pipe_form (okp p mp)
        show px.toNat < r.toNat ∧ py.toNat < r.toNat
        omega
      refine ⟨.int r, rfl, r, rfl, by omega, by omega, for_range (lo := 0) (n := r.toNat)
        (fun i σ G => ∃ (ls : List Int) (s3 s4 s5 : Option V), σ = [some (.int r), some (.ref a), some (.ref la), s3, s4, s5, none] ∧ Keep [] H G ∧ G la = some (.lst (ls.map V.int)) ∧ Gs r.toNat ls ∧ rounds r.toNat (Rw.start r.toNat) (ps.map edD) = rounds (r.toNat - i) ls (ps.map edD))
        ⟨_, none, none, none, rfl, k0, upd_same, Gs.start _, rfl⟩ (fun i σ G hi p => ?_) (fun σ G p => ?_)⟩
      · obtain ⟨ls, s3, s4, s5, rfl, kG, el, hgs, hr'⟩ := p
        refine ⟨.ref a, rfl, a, rfl, ⟨_, SqT.of (kG.same a _ ea)⟩, for_tup (K := K) (a := a) (xs := xs)
          (fun j σ J => ∃ (ls' : List Int) (s3 s4 s5 : Option V), σ = [some (.int r), some (.ref a), some (.ref la), s3, s4, s5, none] ∧ Keep [] H J ∧ J la = some (.lst (ls'.map V.int)) ∧ Gs r.toNat ls' ∧ rnd ls (ps.map edD) = rnd ls' ((ps.map edD).drop j))
          ⟨ls, _, _, _, rfl, kG, el, hgs, rfl⟩ (fun j σ J _ p => ?_) (fun j x σ J hx p => ?_) (fun σ J p => ?_)⟩
        · obtain ⟨_, _, _, _, _, kJ, _⟩ := p
          exact SqT.of (kJ.same a _ ea)
        · obtain ⟨ls', s3, s4, s5, rfl, kJ, eJ, hgJ, hj⟩ := p
          obtain ⟨p, hp, dp⟩ := (hs.keep (Keep.of kJ)).getv j hx
          obtain ⟨px, py, pl, pn, pf, rfl, b1, b2, b3, b4, b5⟩ := pipe_form (okp p (List.mem_of_getElem? hp))
          have ed : (ps.map edD).drop j = (px.toNat, py.toNat) :: (ps.map edD).drop (j + 1) := by
            have hm : (ps.map edD)[j]? = some (px.toNat, py.toNat) := by rw [List.getElem?_map, hp]; rfl
            have hi' : j < (ps.map edD).length := (List.getElem?_eq_some_iff.mp hm).1
            rw [← List.getElem_cons_drop hi', (List.getElem?_eq_some_iff.mp hm).2]
          rw [ed] at hj
          cases dp with
          | tup nb eb hb =>
            rename_i pa pxs
            obtain ⟨ux, e0, ux'⟩ := hb.get 0 (d := .int px) rfl
            cases ux'
            obtain ⟨uy, e1, uy'⟩ := hb.get 1 (d := .int py) rfl
            cases uy'
            have gl := hgJ.len
            refine ⟨.ref la, rfl, .ref pa, rfl, pa, _, 0, .int px, rfl, rfl, SqT.of eb, atI_nat (j := 0) e0, la, _, px, _, rfl, rfl, SqL.of eJ, at_grp b1 (by omega),
              .ref la, rfl, .ref pa, rfl, pa, _, 1, .int py, rfl, rfl, SqT.of eb, atI_nat (j := 1) e1, la, _, py, _, rfl, rfl, SqL.of eJ, at_grp (by omega) (by omega), _, _, rfl, ?_⟩
            have npl : pa ≠ la := fun z => by rw [z, eJ] at eb; cases eb
            refine ⟨_, rfl, .ref la, rfl, .ref pa, rfl, pa, _, 0, .int px, rfl, rfl, SqT.of eb, atI_nat (j := 0) e0, la, _, px, px.toNat, rfl, rfl, eJ, ixN_at b1 (by rw [List.length_map]; omega), ?_⟩
            rw [set_map]
            have eb2 : ∀ o, (upd J la o) pa = some (.tup pxs) := fun o => by rw [upd_ne npl]; exact eb
            refine ⟨_, rfl, .ref la, rfl, .ref pa, rfl, pa, _, 1, .int py, rfl, rfl, SqT.of (eb2 _), atI_nat (j := 1) e1, la, _, py, py.toNat, rfl, rfl, upd_same, ixN_at (by omega) (by rw [List.length_map, List.length_set]; omega), ?_⟩
            rw [set_map, upd_upd]
            refine ⟨lows ls' (px.toNat, py.toNat), _, _, _, rfl, ?_, upd_same, lows_gs hgJ (by show px.toNat < r.toNat; omega) (by show py.toNat < r.toNat; omega), hj⟩
            exact kJ.upd nla
        · obtain ⟨ls', s3, s4, s5, rfl, kJ, eJ, hgJ, hj⟩ := p
          rw [hs.len, List.drop_of_length_le (by rw [List.length_map]; exact Nat.le_refl _)] at hj
          have hj' : rnd ls (ps.map edD) = ls' := hj
          refine ⟨ls', _, _, _, rfl, kJ, eJ, hgJ, ?_⟩
          rw [hr', show r.toNat - i = (r.toNat - (i + 1)) + 1 by omega, rounds_succ, hj']
      · obtain ⟨ls, s3, s4, s5, rfl, kG, el, hgs, hr'⟩ := p
        rw [Nat.sub_self] at hr'
        have hr2 : rounds r.toNat (Rw.start r.toNat) (ps.map edD) = ls := hr'
        refine ⟨.int r, rfl, r, rfl, by omega, by omega, fun W nW => ?_⟩
        refine lc_range (lo := 0) (n := r.toNat) (FI W G fun b => decide (grp ls b = 0)) (FI.start nW) (fun j J hj p => ?_) (fun J p => ?_)
        · have gl := hgs.len
          have ga : atI (ls.map V.int) (0 + (j : Int)) = some (.int (grp ls j)) := by
            have := at_grp (gs := ls) (x := 0 + (j : Int)) (by omega) (by omega)
            rw [show (0 + (j : Int)).toNat = j by omega] at this; exact this
          refine ⟨rfl, .ref la, rfl, .int (0 + (j : Int)), rfl, la, _, _, _, rfl, rfl, SqL.of (p.1.same la _ el), ga, rfl, _, rfl, ite2 (fun c => ?_) (fun c => ?_)⟩
          · refine ⟨_, rfl, p.put (Keep.refl _ _) nW (by omega) ?_⟩
            have := of_decide_eq_false (nt_false c)
            exact decide_eq_false fun z => this (by rw [z])
          · exact p.skip (decide_eq_true (V.int.inj (of_decide_eq_true (nt_true c))))
        · obtain ⟨k5, ws, ew, lw, zw⟩ := p
          refine ⟨show 0 ≤ sizeLine by decide, fun z nz => ?_⟩
          refine ⟨W, z, ws, rfl, rfl, SqL.of (st nz ew), SqL.of upd_same, ?_⟩
          have := q _ ((kG.trans k5).trans (Keep.new (av := []) (o := .lst []) nz))
          unfold allJ at this
          rw [hr2, ← zw] at this
          exact this
theorem house_eq {n : Int} {ps : List PyData} (n1 : 1 ≤ n) (lps : (ps.length : Int) = n - 1) (okp : ∀ p ∈ ps, isPipeB n p = true) : joins (Rw.start n.toNat) (ps.map edD) = allJ n.toNat (ps.map edD) := by
  refine joins_eq (by omega) (fun e m => ?_) (by rw [List.length_map]; omega)
  obtain ⟨p, mp, rfl⟩ := List.mem_map.mp m
  obtain ⟨px, py, pl, pn, pf, rfl, b1, b2, b3, _⟩ := pipe_form (okp p mp)
  show px.toNat < n.toNat ∧ py.toNat < n.toNat
  omega
theorem ok_lone (h : Has K mg "_law_is_one" sLOne) (B : Blt mg) (ms : mg "sum" = none) (CF : Can P w K mg base "_law_is_from" ["_law_thing", "_law_low", "_law_high"] 1 spWithin) (CP : Can P w K mg base "_law_is_pipe" ["_law_rooms", "_law_thing"] 3 spIsPipe)
    (CJ : Can P w K mg base "_law_all_joined" ["_law_rooms", "_law_pipes"] 1 spJoined) : Can P w K mg base "_law_is_one" ["_law_thing"] 4 spIsHouse := by
  obtain ⟨f, fd, F, g⟩ := h
  refine ⟨f, fd, F.ok (k := 3) scLOne (fun vs H Q E h => ?_) (fun cdv A outer s H vs Q E hr h => ?_), g, F.kp, F.binds fun _ _ _ _ _ _ us hl => match us, hl with | [_], _ => rfl⟩
  · obtain ⟨v, d, av, rfl, _⟩ := h
    rfl
  · obtain ⟨v, d, av, rfl, hd, few, q⟩ := h
    refine ⟨_, pss_cons (ps_if (PW.pt (pw_or (pt_not (pt_val (pe_callB (call_isD kit_tup) (by rfl) B.isi boot_isinstance (pa_cons (pv 0) (pa_cons (pe_bltn (v := .ty "tuple") (by rfl) B.tuple_ boot_tuple rfl) pa_nil))))) (pw_or (pt_cmpR op_ne (pe_callB call_len_seq (by rfl) B.len_ PySem.boot_len (pa_cons (pv 0) pa_nil)) pe_int (nomark _)) (pw_or1 (pt_not (pt_val (pe_can CF (hr.mono (by decide)) (by rfl) (pa_cons (pe_ix ix_tup (pv 0) pe_int (fun _ _ => rfl)) (pa_cons pe_int (pa_cons pe_int pa_nil)))))))))) (pss_one (ps_ret pe_bl)) pss_nil)
      (pss_cons (ps_asg (pv 0) (pg_tup (by rfl) (pgs_cons (pg_name (i := 1) scLOne.nd rfl (.inr rfl)) (pgs_cons (pg_name (i := 2) scLOne.nd rfl (.inl rfl)) pgs_nil))))
      (pss_cons (ps_if (PW.pt (pw_or (pt_not (pt_val (pe_callB (call_isD kit_tup) (by rfl) B.isi boot_isinstance (pa_cons (pv 2) (pa_cons (pe_bltn (v := .ty "tuple") (by rfl) B.tuple_ boot_tuple rfl) pa_nil))))) (pw_or1 (pt_cmpR op_ne (pe_callB call_len_seq (by rfl) B.len_ PySem.boot_len (pa_cons (pv 2) pa_nil)) (pe_op op_sub (pv 1) pe_int) (nomark _))))) (pss_one (ps_ret pe_bl)) pss_nil)
      (pss_cons (ps_if (pt_cmpR (op_neNilL hr.units0) (pe_lc (own := [("_law_pipe_here", 3)]) (g := gName 3) rfl scLOne.nd (pi_tup (pv 2)) (blkOk_by (N := nLOne) (sc := defScope sLOne) (by decide +kernel)) (fun _ _ _ _ _ => pg_name (i := 3) scLOne.nd rfl (Or.inl rfl)) (fun _ _ _ _ _ => pts_one (pt_not (pt_val (pe_can CP (hr.mono (by decide)) (by rfl) (pa_cons (pv 1) (pa_cons (pv 3) pa_nil)))))) (fun _ _ _ _ _ => (pv 3))) (pe_lst pa_nil) (nomark _)) (pss_one (ps_ret pe_bl)) pss_nil)
      (pss_cons (ps_if (PW.pt (pw_or (pt_cmpR op_gt (pe_callB (cr_sum rfl) (by rfl) ms boot_sum (pa_cons (pe_lc (own := [("_law_pipe_here", 3)]) (g := gName 3) (tt := tYes) rfl scLOne.nd (pi_tup (pv 2)) (blkOk_by (N := nLOne) (sc := defScope sLOne) (by decide +kernel)) (fun _ _ _ _ _ => pg_name (i := 3) scLOne.nd rfl (Or.inl rfl)) (fun _ _ _ _ _ => pts_nil) (fun _ _ _ _ _ => (pe_callB (call_lenK (K := K) rfl) (by rfl) B.len_ PySem.boot_len (pa_cons (pe_ix (ix_tupK (K := K) rfl) (pv 3) pe_int (fun _ _ => rfl)) pa_nil)))) pa_nil)) pe_int (nomark _)) (pw_or1 (pt_cmpR op_gt (pe_callB (cr_sum rfl) (by rfl) ms boot_sum (pa_cons (pe_lc (own := [("_law_pipe_here", 3)]) (g := gName 3) (tt := tYes) rfl scLOne.nd (pi_tup (pv 2)) (blkOk_by (N := nLOne) (sc := defScope sLOne) (by decide +kernel)) (fun _ _ _ _ _ => pg_name (i := 3) scLOne.nd rfl (Or.inl rfl)) (fun _ _ _ _ _ => pts_nil) (fun _ _ _ _ _ => (pe_callB (call_lenK (K := K) rfl) (by rfl) B.len_ PySem.boot_len (pa_cons (pe_ix (ix_tupK (K := K) rfl) (pv 3) pe_int (fun _ _ => rfl)) pa_nil)))) pa_nil)) pe_int (nomark _))))) (pss_one (ps_ret pe_bl)) pss_nil)
      (pss_one (ps_ret (pe_can CJ (hr.mono (by decide)) (by rfl) (pa_cons (pv 1) (pa_cons (pv 2) pa_nil))))))))), ?_⟩
    have no : ∀ {G : Hp}, Keep [] H G → isHouseB d = false → Q (.bl false) G := fun k z => by
      have := q _ k
      rw [z] at this; exact this
    refine ⟨v, rfl, v, d, av, rfl, hd, _, rfl, ite2 (fun e => ?_) (fun e => ?_)⟩
    · refine no (Keep.refl _ _) ?_
      cases d <;> first | rfl | cases e
    have e' := nt_true e
    have dsome : ∃ ds, d = .tuple ds := by
      cases d <;> first | (cases e'; done) | skip
      exact ⟨_, rfl⟩
    obtain ⟨ds, rfl⟩ := dsome
    cases hd with
    | tup nb eb hs =>
      rename_i a xs
      refine ⟨_, rfl, a, xs, rfl, .inr (SqT.of eb), rfl, _, rfl, ite2 (fun c => ?_) (fun c => ?_)⟩
      · refine iteT (no (Keep.refl _ _) ?_)
        have c' : ¬ V.int ((xs.length : Nat) : Int) = V.int 2 := of_decide_eq_false (nt_false c)
        unfold isHouseB
        split
        · rename_i heq
          cases heq
          exact absurd (by rw [hs.len]; rfl) c'
        · rfl
      have c' : V.int ((xs.length : Nat) : Int) = V.int 2 := of_decide_eq_true (nt_true c)
      have l2 : tupOf (.tuple ds) 2 = true := decide_eq_true (by rw [← hs.len]; exact V.int.inj c')
      obtain ⟨r, pp, e2⟩ := tup_two l2
      cases e2
      simp only [cnt, cnts] at few
      cases hs with
      | cons d1 hs => cases hs with
        | cons d2 hs =>
          cases hs
          rename_i v1 v2
          refine ⟨_, rfl, a, _, 0, v1, rfl, rfl, SqT.of eb, atI_nat (j := 0) rfl, v1, r, av, 1, 16, rfl, d1, _, rfl, ite2 (fun t1 => ?_) (fun t1 => ?_)⟩
          · refine no (Keep.refl _ _) ?_
            unfold isHouseB
            split
            · rename_i heq
              cases heq
              rw [nt_false t1]; simp
            · rfl
          have t1' := nt_true t1
          obtain ⟨n, rfl, n1, n2⟩ := within_int t1'
          cases d1
          refine ⟨_, rfl, a, _, rfl, SqT.of eb, rfl, .int n, _, rfl, v2, [], rfl, rfl, ?_⟩
          refine ⟨v2, rfl, v2, pp, av, rfl, d2, _, rfl, ite2 (fun t2 => ?_) (fun t2 => ?_)⟩
          · refine no (Keep.refl _ _) ?_
            have t2' := nt_false t2
            cases pp <;> first | rfl | cases t2'
          have t2' := nt_true t2
          have ps' : ∃ ps, pp = .tuple ps := by
            cases pp <;> first | (cases t2'; done) | skip
            exact ⟨_, rfl⟩
          obtain ⟨ps, rfl⟩ := ps'
          have zz : isHouseB (.tuple [.int n, .tuple ps]) = (decide ((ps.length : Int) = n - 1) && ps.all (isPipeB n) && (joins (Rw.start n.toNat) (ps.map edD) && fewB ps)) := by
            show (within (.int n) 1 16 && decide ((ps.length : Int) = intOf (.int n) - 1) && ps.all (isPipeB n) && (joins (Rw.start n.toNat) (ps.map edD) && fewB ps)) = _
            rw [t1', Bool.true_and]; rfl
          rw [zz] at q no
          simp only [cnt] at few
          have lcp := len_cnts ps
          cases d2 with
          | tup nc ec hc =>
            rename_i pa pxs
            refine ⟨_, rfl, pa, pxs, rfl, .inr (SqT.of ec), .int n, rfl, n, 1, rfl, rfl, rfl, _, rfl, ite2 (fun t3 => ?_) (fun t3 => ?_)⟩
            · refine no (Keep.refl _ _) ?_
              have : ¬ V.int ((pxs.length : Nat) : Int) = V.int (n - 1) := of_decide_eq_false (nt_false t3)
              rw [decide_eq_false (fun z => this (by rw [hc.len, z]) : ¬ (ps.length : Int) = n - 1)]; simp
            have t3' : V.int ((pxs.length : Nat) : Int) = V.int (n - 1) := of_decide_eq_true (nt_true t3)
            have lps : (ps.length : Int) = n - 1 := by rw [← hc.len]; exact V.int.inj t3'
            rw [decide_eq_true lps, Bool.true_and] at q no
            -- each a pipe
            refine ⟨_, rfl, pa, rfl, ⟨_, SqT.of ec⟩, fun W nW => ?_⟩
            refine lc_tup (K := K) (a := pa) (xs := pxs) (FI W H fun i => isPipeB n (ps.getD i .none)) (FI.start nW) (fun i J _ p => SqT.of (p.1.same pa _ ec)) (fun i x J hx p => ?_) (fun J p => ?_)
            · obtain ⟨pd, hp, dp⟩ := (hc.keep (Keep.of p.1)).getv i hx
              have hi' : i < ps.length := (List.getElem?_eq_some_iff.mp hp).1
              have gd := getD_some hp
              have cp := cnts_mem (List.mem_of_getElem? hp)
              refine ⟨rfl, .int n, rfl, x, rfl, x, pd, av, n, rfl, dp, by omega, fun J2 k2 => ⟨_, rfl, ite2 (fun t => ?_) (fun t => ?_)⟩⟩
              · exact ⟨_, rfl, p.put k2 nW (by omega) (by rw [gd]; exact nt_false t)⟩
              · exact (p.go k2).skip (by rw [gd]; exact nt_true t)
            · obtain ⟨k1, ws, ew, lw, zw⟩ := p
              rw [hc.len, all_range (f := isPipeB n)] at zw
              refine ⟨show 0 ≤ sizeLine by decide, fun z nz => ?_⟩
              have k2 := k1.trans (Keep.new (av := []) (o := .lst []) nz)
              refine ⟨W, z, ws, rfl, rfl, SqL.of (st nz ew), SqL.of upd_same, _, rfl, ite2 (fun t4 => ?_) (fun t4 => ?_)⟩
              · exact no k2 (by rw [← zw, nt_false t4]; simp)
              have al : ps.all (isPipeB n) = true := by rw [← zw]; exact nt_true t4
              have okp : ∀ p ∈ ps, isPipeB n p = true := List.all_eq_true.mp al
              rw [al, Bool.true_and] at q no
              generalize upd J z (.lst []) = H1 at k2 ⊢
              have ec1 := k2.same pa _ ec
              -- how many narrow places
              refine ⟨_, rfl, pa, rfl, ⟨_, SqT.of ec1⟩, fun W1 nW1 => ?_⟩
              refine lc_tup (K := K) (a := pa) (xs := pxs) (fun j J => Keep [] H1 J ∧ J W1 = some (.lst ((((ps.take j).map naL).map fun (n : Nat) => (n : Int)).map V.int)))
                ⟨Keep.new nW1, upd_same⟩ (fun j J _ p => SqT.of (p.1.same pa _ ec1)) (fun j x J hx p => ?_) (fun J p => ?_)
              · obtain ⟨kJ, eJ⟩ := p
                obtain ⟨p, hp, dp⟩ := (hc.keep (Keep.of (k2.trans kJ))).getv j hx
                have hi : j < ps.length := (List.getElem?_eq_some_iff.mp hp).1
                obtain ⟨px, py, pl, pn, pf, rfl, _⟩ := pipe_form (okp p (List.mem_of_getElem? hp))
                cases dp with
                | tup nb' eb' hb' =>
                  obtain ⟨u3, e3, d3⟩ := hb'.get 3 (d := .tuple pn) rfl
                  cases d3 with
                  | tup nc' ec' hc' =>
                    refine ⟨rfl, _, rfl, _, _, 3, _, rfl, rfl, SqT.of eb', atI_nat (j := 3) e3, _, _, rfl, .inr (SqT.of ec'), _, eJ, by rw [List.length_map, List.length_map, List.length_map, List.length_take]; exact small1000 (by omega), kJ.upd nW1, ?_⟩
                    rw [upd_same, List.take_add_one, hp, List.map_append, List.map_append, List.map_append, hc'.len]; rfl
              · obtain ⟨kJ, eJ⟩ := p
                rw [hc.len, List.take_of_length_le (Nat.le_refl _)] at eJ
                have fw : fewB ps = (decide ((ps.map naL).sum ≤ 12) && decide ((ps.map flL).sum ≤ 6)) := rfl
                rw [fw] at q no
                refine ⟨W1, _, rfl, SqL.of eJ, ?_⟩
                rw [sum_ints]
                refine ⟨_, 12, rfl, rfl, _, rfl, ite2 (fun t5 => ?_) (fun t5 => ?_)⟩
                · have : ¬ (ps.map naL).sum ≤ 12 := by have := of_decide_eq_true t5; omega
                  exact no (k2.trans kJ) (by rw [decide_eq_false this]; simp)
                have t5' : (ps.map naL).sum ≤ 12 := by have : ¬ (12 : Int) < (((ps.map naL).sum : Nat) : Int) := fun z => t5 (decide_eq_true z); omega
                rw [decide_eq_true t5', Bool.true_and] at q no
                have k3 := k2.trans kJ
                have ec3 := k3.same pa _ ec
                -- how many flaps
                refine ⟨_, rfl, pa, rfl, ⟨_, SqT.of ec3⟩, fun W2 nW2 => ?_⟩
                refine lc_tup (K := K) (a := pa) (xs := pxs) (fun j L => Keep [] J L ∧ L W2 = some (.lst ((((ps.take j).map flL).map fun (n : Nat) => (n : Int)).map V.int)))
                  ⟨Keep.new nW2, upd_same⟩ (fun j L _ p => SqT.of (p.1.same pa _ ec3)) (fun j x L hx p => ?_) (fun L p => ?_)
                · obtain ⟨kL, eL⟩ := p
                  obtain ⟨p, hp, dp⟩ := (hc.keep (Keep.of (k3.trans kL))).getv j hx
                  have hi : j < ps.length := (List.getElem?_eq_some_iff.mp hp).1
                  obtain ⟨px, py, pl, pn, pf, rfl, _⟩ := pipe_form (okp p (List.mem_of_getElem? hp))
                  cases dp with
                  | tup nb' eb' hb' =>
                    obtain ⟨u3, e3, d3⟩ := hb'.get 4 (d := .tuple pf) rfl
                    cases d3 with
                    | tup nc' ec' hc' =>
                      refine ⟨rfl, _, rfl, _, _, 4, _, rfl, rfl, SqT.of eb', atI_nat (j := 4) e3, _, _, rfl, .inr (SqT.of ec'), _, eL, by rw [List.length_map, List.length_map, List.length_map, List.length_take]; exact small1000 (by omega), kL.upd nW2, ?_⟩
                      rw [upd_same, List.take_add_one, hp, List.map_append, List.map_append, List.map_append, hc'.len]; rfl
                · obtain ⟨kL, eL⟩ := p
                  rw [hc.len, List.take_of_length_le (Nat.le_refl _)] at eL
                  refine ⟨W2, _, rfl, SqL.of eL, ?_⟩
                  rw [sum_ints]
                  refine ⟨_, 6, rfl, rfl, _, rfl, ite2 (fun t6 => ?_) (fun t6 => ?_)⟩
                  · have : ¬ (ps.map flL).sum ≤ 6 := by have := of_decide_eq_true t6; omega
                    exact no (k3.trans kL) (by rw [decide_eq_false this]; simp)
                  have t6' : (ps.map flL).sum ≤ 6 := by have : ¬ (6 : Int) < (((ps.map flL).sum : Nat) : Int) := fun z => t6 (decide_eq_true z); omega
                  rw [decide_eq_true t6', Bool.and_true, house_eq n1 lps okp] at q
                  have k4 := k3.trans kL
                  refine ⟨.int n, rfl, .ref pa, rfl, .ref pa, ps, av, n, rfl, (Dt.tup nc ec hc).keep (Keep.of k4), n1, n2, okp, fun G k5 => q G (k4.trans k5)⟩
end
end Rw

namespace Rw
open PySem PySem.Spec PyProof.Rows L2
/-! ### things that are written down: what they make is small data -/
def Mi (av : List Addr) (te : TE) (σ : L2.St) (H0 : Hp) (i : Int) : Prop := ∀ (H : Hp) (Q : VK), Keep [] H0 H → Tr av H → (∀ H', Keep [] H H' → Tr av H' → Q (.int i) H') → te σ H Q
def Mk (av : List Addr) (te : TE) (σ : L2.St) (H0 : Hp) (m n : Nat) : Prop := ∀ (H : Hp) (Q : VK), Keep [] H0 H → Tr av H → (∀ H' v d, Keep [] H H' → Tr av H' → Dt av H' v d → Sm (10 ^ 39) m n d → Q v H') → te σ H Q
def Mks (av : List Addr) (t : TA) (σ : L2.St) (H0 : Hp) (k m n : Nat) : Prop := ∀ (H : Hp) (Q : List V → Hp → Prop), Keep [] H0 H → Tr av H → (∀ H' vs ds, Keep [] H H' → Tr av H' → Dts av H' vs ds → leafys (10 ^ 39) ds → PyData.depthAll ds ≤ m → cnts ds ≤ n → ds.length = k → Q vs H') → t σ H Q
section
variable {av : List Addr} {σ : L2.St} {H0 : Hp} {ta tb te : TE} {t : TA} {i j : Int} {k m n m1 n1 : Nat}
theorem mi_c : Mi av (tC (.int i)) σ H0 i := fun H Q _ tr q => q H (Keep.refl _ _) tr
theorem mi_var {x : Nat} (h : σ[x]? = some (some (.int i))) : Mi av (tVar x) σ H0 i := fun H Q _ tr q => ⟨_, h, q H (Keep.refl _ _) tr⟩
theorem mi_add (h1 : Mi av ta σ H0 i) (h2 : Mi av tb σ H0 j) : Mi av (tOp (rI0 fun i j => .int (i + j)) ta tb) σ H0 (i + j) := fun H Q k tr q =>
  h1 H _ k tr fun H1 k1 t1 => h2 H1 _ (k.trans k1) t1 fun H2 k2 t2 => ⟨i, j, rfl, rfl, q H2 (k1.trans k2) t2⟩
theorem mi_sub (h1 : Mi av ta σ H0 i) (h2 : Mi av tb σ H0 j) : Mi av (tOp (rI0 fun i j => .int (i - j)) ta tb) σ H0 (i - j) := fun H Q k tr q =>
  h1 H _ k tr fun H1 k1 t1 => h2 H1 _ (k.trans k1) t1 fun H2 k2 t2 => ⟨i, j, rfl, rfl, q H2 (k1.trans k2) t2⟩
theorem mi_pow (h1 : Mi av ta σ H0 i) (h2 : Mi av tb σ H0 j) (c : CPow i j) : Mi av (tOp (rI CPow fun i j => .int (i ^ j.toNat)) ta tb) σ H0 (i ^ j.toNat) := fun H Q k tr q =>
  h1 H _ k tr fun H1 k1 t1 => h2 H1 _ (k.trans k1) t1 fun H2 k2 t2 => ⟨i, j, rfl, rfl, c, q H2 (k1.trans k2) t2⟩
theorem mi_neg (h1 : Mi av ta σ H0 i) : Mi av (tUn (rU fun i => .int (-i)) ta) σ H0 (-i) := fun H Q k tr q => h1 H _ k tr fun H1 k1 t1 => ⟨i, rfl, q H1 k1 t1⟩
theorem mk_i (h : Mi av te σ H0 i) (b : i.natAbs ≤ 10 ^ 39) : Mk av te σ H0 0 1 := fun H Q k tr q => h H _ k tr fun H1 k1 t1 =>
  q H1 _ _ k1 t1 (.int i) ⟨by simp only [leafy]; exact b, by simp only [PyData.depth]; omega, by simp only [cnt]; omega⟩
theorem mk_bl (b : Bool) : Mk av (tC (.bl b)) σ H0 0 1 := fun H Q _ tr q => q H _ _ (Keep.refl _ _) tr (.bl b) ⟨by simp only [leafy], by simp only [PyData.depth]; omega, by simp only [cnt]; omega⟩
theorem mk_var {x : Nat} {v : V} {d : PyData} (h : σ[x]? = some (some v)) (dv : Dt av H0 v d) (sm : Sm (10 ^ 39) m n d) : Mk av (tVar x) σ H0 m n := fun H Q k tr q => ⟨v, h, q H v d (Keep.refl _ _) tr (dv.keep (Keep.of k)) sm⟩
theorem mks_nil : Mks av tNil σ H0 0 0 0 := fun H Q _ tr q => q H [] [] (Keep.refl _ _) tr .nil (by simp only [leafys]) (by simp only [PyData.depthAll]; omega) (by simp only [cnts]; omega) rfl
theorem mks_cons (h1 : Mk av te σ H0 m1 n1) (h2 : Mks av t σ H0 k m n) : Mks av (tCons te t) σ H0 (k + 1) (max m1 m) (n1 + n) := fun H Q kk tr q =>
  h1 H _ kk tr fun H1 v d k1 t1 dv sm => h2 H1 _ (kk.trans k1) t1 fun H2 vs ds k2 t2 dvs lf dp ct ln =>
    q H2 (v :: vs) (d :: ds) (k1.trans k2) t2 (.cons (dv.keep (Keep.of k2)) dvs) (by simp only [leafys]; exact ⟨sm.lf, lf⟩) (by have := sm.dp; simp only [PyData.depthAll]; omega) (by have := sm.ct; simp only [cnts]; omega) (by rw [List.length_cons, ln])
theorem mk_tup (h : Mks av t σ H0 k m n) (b : k ≤ 1000) : Mk av (tTup t) σ H0 (m + 1) (n + 1) := fun H Q kk tr q =>
  h H _ kk tr fun H1 vs ds k1 t1 dvs lf dp ct ln => ⟨by rw [dvs.len, ln, sizeLine_eq]; omega, fun p np => q _ (.ref p) (.tuple ds) (k1.trans (Keep.new np)) t1.upd (Dt.newT t1 np dvs) ⟨by simp only [leafy]; exact lf, by simp only [PyData.depth]; omega, by simp only [cnt]; omega⟩⟩
theorem mk_lst (h : Mks av t σ H0 k m n) (b : k ≤ 1000) : Mk av (tLstN t) σ H0 (m + 1) (n + 1) := fun H Q kk tr q =>
  h H _ kk tr fun H1 vs ds k1 t1 dvs lf dp ct ln => ⟨by rw [dvs.len, ln, sizeLine_eq]; omega, fun p np sp => q _ (.ref p) (.list ds) (k1.trans (Keep.new np)) t1.upd (Dt.newL t1 np sp dvs) ⟨by simp only [leafy]; exact lf, by simp only [PyData.depth]; omega, by simp only [cnt]; omega⟩⟩
theorem Mk.mono {m' n' : Nat} (h : Mk av te σ H0 m n) (h1 : m ≤ m') (h2 : n ≤ n') : Mk av te σ H0 m' n' := fun H Q k tr q => h H Q k tr fun H1 v d k1 t1 dv sm => q H1 v d k1 t1 dv (sm.mono (Nat.le_refl _) h1 h2)
theorem Mk.base {H1 : Hp} (h : Mk av te σ H0 m n) (k : Keep [] H0 H1) : Mk av te σ H1 m n := fun H Q kk tr q => h H Q (k.trans kk) tr q
end
/-! tuple([.. for k in range(c)]) -/
abbrev rTupOf (K : PySem.W.Frag) : List V → Hp → VK → Prop := fun xs H Q => ∃ p ys, xs = [.ref p] ∧ ((SqL K H p ys ∧ ∀ l, H l = none → Q (.ref l) (upd H l (.tup ys))) ∨ (SqT K H p ys ∧ Q (.ref p) H))
theorem wipe_one (σ : L2.St) (i : Nat) (x : Option V) : wipe ((wipe σ [i]).set i x) [i] = wipe σ [i] := by
  show ((σ.set i none).set i x).set i none = σ.set i none
  rw [List.set_set, List.set_set]
theorem mk_comp {K : PySem.W.Frag} {av : List Addr} {σ : L2.St} {H0 : Hp} {ta te : TE} {i c m n : Nat} (hc : Mi av ta σ H0 (c : Int)) (b : c ≤ 100) (bn : n ≤ 1000)
    (he : ∀ (W : Addr) (H1 : Hp) (j : Nat), j < c → Keep [] H0 H1 → Mk (W :: av) te ((wipe σ [i]).set i (some (.int (0 + (j : Int))))) H1 m n) :
    Mk av (tCB (rTupOf K) (tCons (tLc (iRng1 (tCons ta tNil)) (gName i) tYes te [i]) tNil)) σ H0 (m + 1) (c * n + 1) := fun H Q k tr q => by
  refine hc H _ k tr fun H1 k1 t1 => ?_
  refine ⟨(c : Int), rfl, by omega, by omega, fun W nW => ?_⟩
  have fr : H0 W = none := by
    cases hq : H0 W with
    | none => rfl
    | some o => rw [(k.trans k1).same W o hq] at nW; cases nW
  rw [Int.toNat_natCast]
  refine lc_range (lo := 0) (n := c) (fun j J => Keep [] H1 J ∧ Tr (W :: av) J ∧ ∃ vs ds, J W = some (.lst vs) ∧ Dts (W :: av) J vs ds ∧ leafys (10 ^ 39) ds ∧ PyData.depthAll ds ≤ m ∧ cnts ds ≤ j * n ∧ ds.length = j)
    ⟨Keep.new nW, t1.upd.cons upd_same, [], [], upd_same, .nil, by simp only [leafys], by simp only [PyData.depthAll]; omega, by simp only [cnts]; omega, rfl⟩ (fun j J hj p => ?_) (fun J p => ?_)
  · obtain ⟨kJ, tJ, vs, ds, eW, dd, lf, dp, ct, ln⟩ := p
    refine ⟨wipe_one σ i _, ?_⟩
    refine he W J j hj ((k.trans k1).trans kJ) J _ (Keep.refl _ _) tJ fun J2 v d k2 t2 dv sm => ?_
    refine ⟨vs, k2.same W _ eW, by rw [dd.len, ln]; exact small1000 (by omega), ((kJ.trans k2)).upd nW, t2.upd, vs ++ [v], ds ++ [d], upd_same, ?_, ?_, ?_, ?_, by rw [List.length_append, ln]; rfl⟩
    · exact ((dd.keep (Keep.of k2)).app (.cons dv .nil)).keep (Keep.put List.mem_cons_self)
    · rw [leafys_app]; exact ⟨lf, by simp only [leafys]; exact ⟨sm.lf, trivial⟩⟩
    · rw [depth_app]
      have := sm.dp
      simp only [PyData.depthAll]; omega
    · rw [cnts_app]
      have := sm.ct
      simp only [cnts]
      rw [Nat.succ_mul]; omega
  · obtain ⟨kJ, tJ, vs, ds, eW, dd, lf, dp, ct, ln⟩ := p
    have tav : Tr av J := fun a m => tJ a (List.mem_cons_of_mem _ m)
    refine ⟨W, vs, rfl, .inl ⟨SqL.of eW, fun T nT => ?_⟩⟩
    refine q _ (.ref T) (.tuple ds) ((k1.trans kJ).trans (Keep.new nT)) tav.upd (Dt.newT tav nT (dd.less fun a m => List.mem_cons_of_mem _ m)) ⟨by simp only [leafy]; exact lf, by simp only [PyData.depth]; omega, by simp only [cnt]; omega⟩
end Rw

namespace Rw
open PySem PySem.Spec PyProof.Rows L2
def MkT (av : List Addr) (te : TE) (σ : L2.St) (H0 : Hp) (k m n : Nat) : Prop := ∀ (H : Hp) (Q : VK), Keep [] H0 H → Tr av H → (∀ H' v ds, Keep [] H H' → Tr av H' → Dt av H' v (.tuple ds) → Sm (10 ^ 39) m n (.tuple ds) → ds.length = k → Q v H') → te σ H Q
theorem mkT_comp {K : PySem.W.Frag} {av : List Addr} {σ : L2.St} {H0 : Hp} {ta te : TE} {i c m n : Nat} (hc : Mi av ta σ H0 (c : Int)) (b : c ≤ 100) (bn : n ≤ 1000)
    (he : ∀ (W : Addr) (H1 : Hp) (j : Nat), j < c → Keep [] H0 H1 → Mk (W :: av) te ((wipe σ [i]).set i (some (.int (0 + (j : Int))))) H1 m n) :
    MkT av (tCB (rTupOf K) (tCons (tLc (iRng1 (tCons ta tNil)) (gName i) tYes te [i]) tNil)) σ H0 c (m + 1) (c * n + 1) := fun H Q k tr q => by
  refine hc H _ k tr fun H1 k1 t1 => ?_
  refine ⟨(c : Int), rfl, by omega, by omega, fun W nW => ?_⟩
  rw [Int.toNat_natCast]
  refine lc_range (lo := 0) (n := c) (fun j J => Keep [] H1 J ∧ Tr (W :: av) J ∧ ∃ vs ds, J W = some (.lst vs) ∧ Dts (W :: av) J vs ds ∧ leafys (10 ^ 39) ds ∧ PyData.depthAll ds ≤ m ∧ cnts ds ≤ j * n ∧ ds.length = j)
    ⟨Keep.new nW, t1.upd.cons upd_same, [], [], upd_same, .nil, by simp only [leafys], by simp only [PyData.depthAll]; omega, by simp only [cnts]; omega, rfl⟩ (fun j J hj p => ?_) (fun J p => ?_)
  · obtain ⟨kJ, tJ, vs, ds, eW, dd, lf, dp, ct, ln⟩ := p
    refine ⟨wipe_one σ i _, ?_⟩
    refine he W J j hj ((k.trans k1).trans kJ) J _ (Keep.refl _ _) tJ fun J2 v d k2 t2 dv sm => ?_
    refine ⟨vs, k2.same W _ eW, by rw [dd.len, ln]; exact small1000 (by omega), ((kJ.trans k2)).upd nW, t2.upd, vs ++ [v], ds ++ [d], upd_same, ?_, ?_, ?_, ?_, by rw [List.length_append, ln]; rfl⟩
    · exact ((dd.keep (Keep.of k2)).app (.cons dv .nil)).keep (Keep.put List.mem_cons_self)
    · rw [leafys_app]; exact ⟨lf, by simp only [leafys]; exact ⟨sm.lf, trivial⟩⟩
    · rw [depth_app]
      have := sm.dp
      simp only [PyData.depthAll]; omega
    · rw [cnts_app]
      have := sm.ct
      simp only [cnts]
      rw [Nat.succ_mul]; omega
  · obtain ⟨kJ, tJ, vs, ds, eW, dd, lf, dp, ct, ln⟩ := p
    have tav : Tr av J := fun a m => tJ a (List.mem_cons_of_mem _ m)
    refine ⟨W, vs, rfl, .inl ⟨SqL.of eW, fun T nT => ?_⟩⟩
    refine q _ (.ref T) ds ((k1.trans kJ).trans (Keep.new nT)) tav.upd (Dt.newT tav nT (dd.less fun a m => List.mem_cons_of_mem _ m)) ⟨by simp only [leafy]; exact lf, by simp only [PyData.depth]; omega, by simp only [cnt]; omega⟩ ln
section
variable {K : PySem.W.Frag} {av : List Addr} {σ : L2.St} {H0 : Hp} {t : TA} {te : TE} {k m n m1 n1 : Nat}
theorem MkT.mk (h : MkT av te σ H0 k m n) : Mk av te σ H0 m n := fun H Q kk tr q => h H Q kk tr fun H1 v ds k1 t1 dv sm _ => q H1 v _ k1 t1 dv sm
theorem mk_sl {x : Nat} {v : V} {ds : List PyData} (j : Nat) (h : σ[x]? = some (some v)) (dv : Dt av H0 v (.tuple ds)) (sm : Sm (10 ^ 39) m n (.tuple ds)) : Mk av (tSl (rSlA K) (tVar x) tNoPart (tPart (tC (.int (j : Int))))) σ H0 m n := fun H Q kk tr q =>
  ⟨v, h, (j : Int), rfl, sl_take j (dv.keep (Keep.of kk)) tr fun H1 v1 k1 t1 d1 => q H1 v1 _ k1 t1 d1 (by
    obtain ⟨a, b, c⟩ := sm
    have e : ds = ds.take j ++ ds.drop j := (List.take_append_drop j ds).symm
    simp only [leafy] at a
    simp only [PyData.depth] at b
    simp only [cnt] at c
    rw [e, leafys_app] at a
    rw [e, depth_app] at b
    rw [e, cnts_app] at c
    exact ⟨by simp only [leafy]; exact a.1, by simp only [PyData.depth]; omega, by simp only [cnt]; omega⟩)⟩
theorem mk_cat {x : Nat} {v : V} {ds : List PyData} (h : σ[x]? = some (some v)) (dv : Dt av H0 v (.tuple ds)) (sm : Sm (10 ^ 39) m n (.tuple ds)) (ln : ds.length ≤ 100) (hs : Mks av t σ H0 k m1 n1) (b : k ≤ 100) : Mk av (tOp (rCatA K) (tVar x) (tTup t)) σ H0 (max m (m1 + 1)) (n + n1) := fun H Q kk tr q =>
  ⟨v, h, hs H _ kk tr fun H1 vs es k1 t1 dvs lf dp ct l1 => ⟨by rw [dvs.len, l1, sizeLine_eq]; omega, fun p np => cat_any (((dv.keep (Keep.of kk)).keep (Keep.of k1)).kn np) (Dt.newT t1 np dvs) (by rw [sizeLine_eq]; omega) t1.upd fun H2 v2 k2 t2 d2 =>
    q H2 v2 _ (k1.trans ((Keep.new np).trans k2)) t2 d2 (by
      obtain ⟨a, b, c⟩ := sm
      simp only [leafy] at a
      simp only [PyData.depth] at b
      simp only [cnt] at c
      exact ⟨by simp only [leafy]; rw [leafys_app]; exact ⟨a, lf⟩, by simp only [PyData.depth]; rw [depth_app]; omega, by simp only [cnt]; rw [cnts_app]; omega⟩)⟩⟩
end
end Rw

namespace Rw
open PySem PySem.Spec PyProof.Rows L2
def Thg (ds : List PyData) : Prop := ∀ d ∈ ds, Sm (10 ^ 39 + 32) 12 3000 d
theorem Thg.app {xs ys : List PyData} (h : Thg xs) (k : Thg ys) : Thg (xs ++ ys) := fun d m => (List.mem_append.mp m).elim (h d) (k d)
theorem Thg.nil : Thg [] := fun _ m => absurd m List.not_mem_nil
theorem Thg.cons {x : PyData} {xs : List PyData} (h : Sm (10 ^ 39 + 32) 12 3000 x) (k : Thg xs) : Thg (x :: xs) := fun d m => by
  rcases List.mem_cons.mp m with m | m
  · rw [m]; exact h
  · exact k d m
theorem Thg.of {ds : List PyData} {m n : Nat} (lf : leafys (10 ^ 39) ds) (dp : PyData.depthAll ds ≤ m) (ct : cnts ds ≤ n) (h1 : m ≤ 12) (h2 : n ≤ 3000) : Thg ds := fun d md =>
  ⟨leafy_mono (by omega) d (leafys_mem lf md), by have := depth_mem md; omega, by have := cnts_mem md; omega⟩
theorem Mk.go {av : List Addr} {te : TE} {σ : L2.St} {H : Hp} {Q : VK} {m n : Nat} (M N : Nat) (h : Mk av te σ H m n) (h1 : m ≤ M) (h2 : n ≤ N) (tr : Tr av H) (q : ∀ H' v d, Keep [] H H' → Tr av H' → Dt av H' v d → Sm (10 ^ 39) M N d → Q v H') : te σ H Q :=
  (h.mono h1 h2) H Q (Keep.refl _ _) tr q
theorem Mks.go {av : List Addr} {t : TA} {σ : L2.St} {H : Hp} {Q : List V → Hp → Prop} {k m n : Nat} (C M N : Nat) (h : Mks av t σ H k m n) (h0 : k ≤ C) (h1 : m ≤ M) (h2 : n ≤ N) (tr : Tr av H)
    (q : ∀ H' vs ds, Keep [] H H' → Tr av H' → Dts av H' vs ds → leafys (10 ^ 39) ds → PyData.depthAll ds ≤ M → cnts ds ≤ N → ds.length ≤ C → Q vs H') : t σ H Q :=
  h H Q (Keep.refl _ _) tr fun H' vs ds k' t' d lf dp ct ln => q H' vs ds k' t' d lf (by omega) (by omega) (by omega)
theorem MkT.go {av : List Addr} {te : TE} {σ : L2.St} {H : Hp} {Q : VK} {k m n : Nat} (h : MkT av te σ H k m n) (tr : Tr av H) (q : ∀ H' v ds, Keep [] H H' → Tr av H' → Dt av H' v (.tuple ds) → Sm (10 ^ 39) m n (.tuple ds) → ds.length = k → Q v H') : te σ H Q := h H Q (Keep.refl _ _) tr q
theorem Mi.to {av : List Addr} {te : TE} {σ : L2.St} {H0 : Hp} {i j : Int} (h : Mi av te σ H0 i) (e : i = j) : Mi av te σ H0 j := e ▸ h
/-! a list that grows -/
def FO (fa : Addr) (av : List Addr) (H G : Hp) (n : Nat) : Prop := Keep [] H G ∧ Tr (fa :: av) G ∧ ∃ us ds, G fa = some (.lst us) ∧ Dts (fa :: av) G us ds ∧ Thg ds ∧ ds.length ≤ n
theorem FO.push {fa : Addr} {av : List Addr} {H G G2 : Hp} {n : Nat} {v : V} {d : PyData} (h : FO fa av H G n) (nf : H fa = none) (k : Keep [] G G2) (t : Tr (fa :: av) G2) (dv : Dt (fa :: av) G2 v d) (sm : Sm (10 ^ 39 + 32) 12 3000 d) (hn : n ≤ 900) :
    ∃ us, G2 fa = some (.lst us) ∧ us.length < sizeLine ∧ FO fa av H (upd G2 fa (.lst (us ++ [v]))) (n + 1) := by
  obtain ⟨k0, _, us, ds, e, dd, th, ln⟩ := h
  refine ⟨us, k.same fa _ e, by rw [dd.len]; exact small1000 (by omega), (k0.trans k).upd nf, t.upd, us ++ [v], ds ++ [d], upd_same, ?_, th.app (.cons sm .nil), by rw [List.length_append, List.length_singleton]; omega⟩
  exact ((dd.keep (Keep.of k)).app (.cons dv .nil)).keep (Keep.put List.mem_cons_self)
def FOO (av : List Addr) (H G : Hp) (us : List V) (ds : List PyData) (n : Nat) : Prop := Keep [] H G ∧ Tr av G ∧ Dts av G us ds ∧ Thg ds ∧ ds.length ≤ n
theorem FOO.cat {av : List Addr} {H G H2 : Hp} {us us2 : List V} {ds ds2 : List PyData} {n c m2 n2 : Nat} {p f2 : Addr} (g : FOO av H G us ds n) (k2 : Keep [] G H2) (t2 : Tr av H2) (D2 : Dts av H2 us2 ds2) (lf : leafys (10 ^ 39) ds2) (dp : PyData.depthAll ds2 ≤ m2) (ct : cnts ds2 ≤ n2) (ln : ds2.length ≤ c)
    (h1 : m2 ≤ 12) (h2 : n2 ≤ 3000) (np : H2 p = none) (nf : (upd H2 p (.lst us2)) f2 = none) : FOO av H (upd (upd H2 p (.lst us2)) f2 (.lst (us ++ us2))) (us ++ us2) (ds ++ ds2) (n + c) := by
  obtain ⟨k0, t0, D0, th, l0⟩ := g
  exact ⟨(k0.trans k2).trans ((Keep.new np).trans (Keep.new nf)), t2.upd.upd, (((D0.keep (Keep.of k2)).app D2).kn np).kn nf, th.app (Thg.of lf dp ct h1 h2), by rw [List.length_append]; omega⟩
theorem FOO.fo {av : List Addr} {H G : Hp} {us : List V} {ds : List PyData} {n : Nat} {fa : Addr} (g : FOO av H G us ds n) (nf : G fa = none) : FO fa av H (upd G fa (.lst us)) n := by
  obtain ⟨k0, t0, D0, th, l0⟩ := g
  exact ⟨k0.trans (Keep.new nf), t0.upd.cons upd_same, us, ds, upd_same, (D0.more nf).keep (Keep.new nf), th, l0⟩
theorem FO.go {fa : Addr} {av : List Addr} {H G G2 : Hp} {n : Nat} (h : FO fa av H G n) (k : Keep [] G G2) (t : Tr (fa :: av) G2) : FO fa av H G2 n := by
  obtain ⟨k0, _, us, ds, e, dd, th, ln⟩ := h
  exact ⟨k0.trans k, t, us, ds, k.same fa _ e, dd.keep (Keep.of k), th, ln⟩
theorem FO.more {fa : Addr} {av : List Addr} {H G : Hp} {n n' : Nat} (h : FO fa av H G n) (l : n ≤ n') : FO fa av H G n' := by
  obtain ⟨k0, t, us, ds, e, dd, th, ln⟩ := h
  exact ⟨k0, t, us, ds, e, dd, th, by omega⟩
theorem pe_can0 {X : Cx} {x : Str} {ps : List Str} {k : Nat} {sp : Sp} {p pos : Pos} (C : Can X.prog X.w X.K X.mg X.base x ps k sp) (hr : Room k X.A) (hg : Gl X x) (hdb : (x == ("__debug__" : Str)) = false := by decide) :
    PE X (.Call (.Name x p) [] [] pos) (tCall sp [] E0 tNil) := by
  obtain ⟨f, fd, F, gm, kp, b⟩ := C
  exact pe_call0 F hr hg gm kp b .nil pass0 hdb
section
variable {K : PySem.W.Frag} {t : TA} {te : TE} {tb rest : TS} {D : Ends} {σ : L2.St} {H : Hp} {i : Nat} {fa : Addr}
theorem s_new (h : t σ H fun xs H1 => xs.length ≤ sizeLine ∧ ∀ p, H1 p = none → rest D (σ.set i (some (.ref p))) (upd H1 p (.lst xs))) : tSeq (tAsg (tLst t) (gName i)) rest D σ H := h
theorem s_cat (hσ : σ[1]? = some (some (.ref fa))) (h : t σ H fun xs H1 => xs.length ≤ sizeLine ∧ ∀ p, H1 p = none → rCat (.ref fa) (.ref p) (upd H1 p (.lst xs)) (fun v H2 => rest D (σ.set 1 (some v)) H2)) : tSeq (tAsg (tOp rCat (tVar 1) (tLst t)) (gName 1)) rest D σ H := ⟨_, hσ, h⟩
theorem s_ret (hσ : σ[1]? = some (some (.ref fa))) (h : t σ H fun xs H1 => xs.length ≤ sizeLine ∧ ∀ p, H1 p = none → rCat (.ref fa) (.ref p) (upd H1 p (.lst xs)) D.rt) : tRet (tOp rCat (tVar 1) (tLst t)) D σ H := ⟨_, hσ, h⟩
theorem s_app {us : List V} (hσ : σ[1]? = some (some (.ref fa))) (ef : H fa = some (.lst us)) (h : te σ H fun v H1 => rAppend (.ref fa) [v] H1 fun _ H2 => rest D σ H2) : tSeq (tDrop (tBM K "list" rAppend (tVar 1) (tCons te tNil))) rest D σ H := ⟨_, hσ, .inl ⟨rfl, _, SqL.of ef⟩, h⟩
theorem s_app1 {us : List V} (hσ : σ[1]? = some (some (.ref fa))) (ef : H fa = some (.lst us)) (h : te σ H fun v H1 => rAppend (.ref fa) [v] H1 fun _ H2 => D.nx σ H2) : tDrop (tBM K "list" rAppend (tVar 1) (tCons te tNil)) D σ H := ⟨_, hσ, .inl ⟨rfl, _, SqL.of ef⟩, h⟩
theorem s_for {g : TG} (h : t σ H fun xs H1 => xs.length ≤ sizeLine ∧ ∀ p, H1 p = none → ∃ a, V.ref p = .ref a ∧ (∃ ys, SqL K (upd H1 p (.lst xs)) a ys) ∧ tFor (fun _ H R => R (Itl K a) H) g tb { D with nx := rest D } σ (upd H1 p (.lst xs))) : tSeq (tFor (iList K (tLst t)) g tb) rest D σ H := h
end
theorem s_loop {K : PySem.W.Frag} {t : TA} {te : TE} {rest : TS} {D : Ends} {σ : L2.St} {G H : Hp} {x k n m' n' : Nat} {fa : Addr} {av : List Addr} (hσ : ∀ s, (σ.set x s)[1]? = some (some (.ref fa))) (h0 : ∃ s, σ = σ.set x s) (fo : FO fa av H G n) (nH : H fa = none)
    (ml : ∀ Q : List V → Hp → Prop, (∀ H' vs, Keep [] G H' → Tr (fa :: av) H' → vs.length ≤ k → (∀ J v, v ∈ vs → Keep (fa :: av) H' J → Tr (fa :: av) J → Mk (fa :: av) te (σ.set x (some v)) J m' n') → Q vs H') → t σ G Q)
    (kb : k ≤ 50) (hn : n ≤ 800) (b1 : m' ≤ 12) (b2 : n' ≤ 3000) (hr : ∀ s G', FO fa av H G' (n + k) → rest D (σ.set x s) G') : tSeq (tFor (iList K (tLst t)) (gName x) (tDrop (tBM K "list" rAppend (tVar 1) (tCons te tNil)))) rest D σ G := by
  refine s_for ?_
  refine ml _ fun H1 vs k1 t1 lv he => ?_
  refine ⟨by rw [sizeLine_eq]; omega, fun r nr => ⟨r, rfl, ⟨_, SqL.of upd_same⟩, ?_⟩⟩
  obtain ⟨s0, es0⟩ := h0
  have fo1 : FO fa av H (upd H1 r (.lst vs)) (n + 0) := (fo.go k1 t1).go (Keep.new nr) t1.upd
  have er : (upd H1 r (.lst vs)) r = some (.lst vs) := upd_same
  have nrH : r ≠ fa := fun e => by
    obtain ⟨_, tt, _⟩ := fo
    obtain ⟨o, eo⟩ := t1 fa List.mem_cons_self
    rw [e] at nr; rw [nr] at eo; cases eo
  refine for_list (K := K) (a := r) (xs := vs) (fun i τ J => ∃ s, τ = σ.set x s ∧ FO fa av H J (n + i) ∧ J r = some (.lst vs) ∧ Keep (fa :: av) H1 J) ⟨s0, es0, fo1, er, Keep.new nr⟩ (fun i τ J _ p => let ⟨_, _, _, e, _⟩ := p; SqL.of e) (fun i v τ J hv p => ?_) (fun τ J p => ?_)
  · obtain ⟨s, rfl, f, e, kf⟩ := p
    have hi : i < vs.length := (List.getElem?_eq_some_iff.mp hv).1
    have mv := List.mem_of_getElem? hv
    have tJ := f.2.1
    obtain ⟨us0, ds0, eu0, _⟩ := f.2.2
    show (tDrop (tBM K "list" rAppend (tVar 1) (tCons te tNil))) _ ((σ.set x s).set x (some v)) J
    rw [List.set_set]
    refine s_app1 (hσ _) eu0 ?_
    refine Mk.go 12 3000 (he J v mv kf tJ) b1 b2 tJ fun J2 y d k2 t2 dy sm => ?_
    obtain ⟨us, eu, lu, f2⟩ := f.push nH k2 t2 dy (sm.mono (by omega) (by omega) (by omega)) (by omega)
    refine ⟨fa, us, y, rfl, rfl, eu, lu, some v, rfl, f2, ?_, ?_⟩
    · rw [upd_ne nrH]; exact k2.same r _ e
    · exact (kf.trans (Keep.of k2)).trans (Keep.put List.mem_cons_self)
  · obtain ⟨s, rfl, f, e, _⟩ := p
    exact hr s J (f.more (by omega))
theorem s_loopD {K : PySem.W.Frag} {t : TA} {te : TE} {rest : TS} {D : Ends} {σ : L2.St} {G H : Hp} {x n m c : Nat} (k m' n' : Nat) {fa : Addr} {av : List Addr} (hσ : ∀ s, (σ.set x s)[1]? = some (some (.ref fa))) (h0 : ∃ s, σ = σ.set x s) (fo : FO fa av H G n) (nH : H fa = none)
    (ml : Mks (fa :: av) t σ G k m c) (he : ∀ J v d, Dt (fa :: av) J v d → Sm (10 ^ 39) m c d → Mk (fa :: av) te (σ.set x (some v)) J m' n')
    (kb : k ≤ 50) (hn : n ≤ 800) (b1 : m' ≤ 12) (b2 : n' ≤ 3000) (hr : ∀ s G', FO fa av H G' (n + k) → rest D (σ.set x s) G') : tSeq (tFor (iList K (tLst t)) (gName x) (tDrop (tBM K "list" rAppend (tVar 1) (tCons te tNil)))) rest D σ G :=
  s_loop hσ h0 fo nH (fun Q q => ml G Q (Keep.refl _ _) fo.2.1 fun H' vs ds k1 t1 dd lf dp ct ln => q H' vs k1 t1 (by rw [dd.len, ln]; omega) fun J v mv kJ tJ => by
    obtain ⟨i, hi⟩ := List.getElem?_of_mem mv
    obtain ⟨d, hd, dv⟩ := (dd.keep kJ).getv i hi
    have md := List.mem_of_getElem? hd
    exact he J v d dv ⟨leafys_mem lf md, by have := depth_mem md; omega, by have := cnts_mem md; omega⟩) kb hn b1 b2 hr
theorem s_loopI {K : PySem.W.Frag} {te : TE} {rest : TS} {D : Ends} {σ : L2.St} {G H : Hp} {x n : Nat} {a b : Int} (m' n' : Nat) {fa : Addr} {av : List Addr} (hσ : ∀ s, (σ.set x s)[1]? = some (some (.ref fa))) (h0 : ∃ s, σ = σ.set x s) (fo : FO fa av H G n) (nH : H fa = none)
    (ha : ∀ J, Mk (fa :: av) te (σ.set x (some (.int a))) J m' n') (hb : ∀ J, Mk (fa :: av) te (σ.set x (some (.int b))) J m' n')
    (hn : n ≤ 800) (b1 : m' ≤ 12) (b2 : n' ≤ 3000) (hr : ∀ s G', FO fa av H G' (n + 2) → rest D (σ.set x s) G') : tSeq (tFor (iList K (tLst (tCons (tC (.int a)) (tCons (tC (.int b)) tNil)))) (gName x) (tDrop (tBM K "list" rAppend (tVar 1) (tCons te tNil)))) rest D σ G :=
  s_loop hσ h0 fo nH (fun Q q => q G _ (Keep.refl _ _) fo.2.1 (Nat.le_refl _) fun J v mv _ _ => by
    rcases List.mem_cons.mp mv with e | e
    · rw [e]; exact ha J
    · rw [List.mem_singleton.mp e]; exact hb J) (show 2 ≤ 50 by decide) hn b1 b2 hr
theorem s_push {K : PySem.W.Frag} {te : TE} {rest : TS} {D : Ends} {σ : L2.St} {G H : Hp} {n m' n' : Nat} {fa : Addr} {av : List Addr} (hσ : σ[1]? = some (some (.ref fa))) (fo : FO fa av H G n) (nH : H fa = none) (he : Mk (fa :: av) te σ G m' n')
    (hn : n ≤ 800) (b1 : m' ≤ 12) (b2 : n' ≤ 3000) (hr : ∀ G', Keep (fa :: av) G G' → FO fa av H G' (n + 1) → rest D σ G') : tSeq (tDrop (tBM K "list" rAppend (tVar 1) (tCons te tNil))) rest D σ G := by
  obtain ⟨us0, ds0, eu0, _⟩ := fo.2.2
  refine s_app hσ eu0 ?_
  refine Mk.go 12 3000 he b1 b2 fo.2.1 fun J2 y d k2 t2 dy sm => ?_
  obtain ⟨us, eu, lu, f2⟩ := fo.push nH k2 t2 dy (sm.mono (by omega) (by omega) (by omega)) (by omega)
  exact ⟨fa, us, y, rfl, rfl, eu, lu, hr _ ((Keep.of k2).trans (Keep.put List.mem_cons_self)) f2⟩
section
variable {P : Program} {w : World} {K : PySem.W.Frag} {mg : Str → Option Value} {base : Heap}
abbrev sEdges : Stmt := topS 43
abbrev nEdges : List Str := ["_law_far", "_law_found", "_law_rooms", "_law_narrows", "_law_flaps", "_law_many", "_law_six", "_law_k"]
theorem scEdges : FnScope nEdges [] (defScope sEdges) := ⟨rfl, rfl, rfl, by decide +kernel, rfl, by decide +kernel, by decide +kernel⟩
def spEdges : Sp := fun vs H Q _ => ∃ (av : List Addr), vs = [] ∧ Tr av H ∧ ∀ H' (p : Addr) (us : List V) (ds : List PyData), Keep [] H H' → H' p = some (.lst us) → p ∉ av → Dts av H' us ds → Thg ds → ds.length ≤ 100 → Tr av H' → Q (.ref p) H'
theorem ok_edges (h : Has K mg "_law_edges" sEdges) (B : Blt mg) : Can P w K mg base "_law_edges" [] 1 spEdges := by
  obtain ⟨f, fd, F, g⟩ := h
  refine ⟨f, fd, F.ok (k := 0) scEdges (fun vs H Q E h => ?_) (fun cdv A outer s H vs Q E hr h => ?_), g, F.kp, F.binds fun _ _ _ _ _ _ us hl => match us, hl with | [], _ => rfl⟩
  · obtain ⟨av, rfl, _⟩ := h
    rfl
  · obtain ⟨av, rfl, tr, q⟩ := h
    refine ⟨_, pss_cons (ps_set (i := 0) scEdges.nd rfl (.inl rfl) (pe_op op_pow pe_int pe_int))
      (pss_cons (ps_set (i := 1) scEdges.nd rfl (.inl rfl) (pe_lst (pa_cons (pe_tup (pa_cons pe_int (pa_cons (pe_tup pa_nil) pa_nil))) (pa_cons (pe_tup (pa_cons pe_int (pa_cons (pe_tup pa_nil) pa_nil))) (pa_cons (pe_tup (pa_cons pe_int (pa_cons (pe_tup pa_nil) pa_nil))) (pa_cons (pe_tup (pa_cons pe_int (pa_cons (pe_tup (pa_cons (pe_tup (pa_cons pe_int (pa_cons pe_int (pa_cons pe_int (pa_cons (pe_tup pa_nil) (pa_cons (pe_tup pa_nil) pa_nil)))))) pa_nil)) pa_nil))) (pa_cons (pe_tup (pa_cons pe_int (pa_cons (pe_tup (pa_cons (pe_tup (pa_cons pe_int (pa_cons pe_int (pa_cons pe_int (pa_cons (pe_tup pa_nil) (pa_cons (pe_tup pa_nil) pa_nil)))))) pa_nil)) pa_nil))) (pa_cons (pe_tup (pa_cons pe_int (pa_cons (pe_tup (pa_cons (pe_tup (pa_cons pe_int (pa_cons pe_int (pa_cons pe_int (pa_cons (pe_tup pa_nil) (pa_cons (pe_tup pa_nil) pa_nil)))))) pa_nil)) pa_nil))) pa_nil))))))))
      (pss_cons (ps_set (i := 1) scEdges.nd rfl (.inl rfl) (pe_op op_cat (pv 1) (pe_lst (pa_cons (pe_tup (pa_cons pe_int (pa_cons (pe_tup (pa_cons (pe_tup (pa_cons pe_int (pa_cons pe_int (pa_cons pe_int (pa_cons (pe_tup pa_nil) (pa_cons (pe_tup pa_nil) pa_nil)))))) pa_nil)) pa_nil))) (pa_cons (pe_tup (pa_cons pe_int (pa_cons (pe_tup (pa_cons (pe_tup (pa_cons pe_int (pa_cons pe_int (pa_cons (pv 0) (pa_cons (pe_tup pa_nil) (pa_cons (pe_tup pa_nil) pa_nil)))))) pa_nil)) pa_nil))) (pa_cons (pe_tup (pa_cons pe_int (pa_cons (pe_tup (pa_cons (pe_tup (pa_cons pe_int (pa_cons pe_int (pa_cons (pe_op op_add (pv 0) pe_int) (pa_cons (pe_tup pa_nil) (pa_cons (pe_tup pa_nil) pa_nil)))))) pa_nil)) pa_nil))) pa_nil))))))
      (pss_cons (ps_set (i := 1) scEdges.nd rfl (.inl rfl) (pe_op op_cat (pv 1) (pe_lst (pa_cons (pe_tup (pa_cons pe_int (pa_cons (pe_tup (pa_cons (pe_tup (pa_cons pe_int (pa_cons pe_int (pa_cons pe_int (pa_cons (pe_tup pa_nil) (pa_cons (pe_tup pa_nil) pa_nil)))))) pa_nil)) pa_nil))) (pa_cons (pe_tup (pa_cons pe_int (pa_cons (pe_tup (pa_cons (pe_tup (pa_cons pe_int (pa_cons pe_int (pa_cons pe_int (pa_cons (pe_tup pa_nil) (pa_cons (pe_tup pa_nil) pa_nil)))))) (pa_cons (pe_tup (pa_cons pe_int (pa_cons pe_int (pa_cons pe_int (pa_cons (pe_tup pa_nil) (pa_cons (pe_tup pa_nil) pa_nil)))))) pa_nil))) pa_nil))) pa_nil)))))
      (pss_cons (ps_set (i := 1) scEdges.nd rfl (.inl rfl) (pe_op op_cat (pv 1) (pe_lst (pa_cons (pe_tup (pa_cons pe_int (pa_cons (pe_tup (pa_cons (pe_tup (pa_cons pe_int (pa_cons pe_int (pa_cons pe_int (pa_cons (pe_tup pa_nil) (pa_cons (pe_tup pa_nil) pa_nil)))))) (pa_cons (pe_tup (pa_cons pe_int (pa_cons pe_int (pa_cons pe_int (pa_cons (pe_tup pa_nil) (pa_cons (pe_tup pa_nil) pa_nil)))))) (pa_cons (pe_tup (pa_cons pe_int (pa_cons pe_int (pa_cons pe_int (pa_cons (pe_tup pa_nil) (pa_cons (pe_tup pa_nil) pa_nil)))))) pa_nil)))) pa_nil))) pa_nil))))
      (pss_cons (ps_for PassesOwn.never rfl (pi_list (pe_lst (pa_cons pe_int (pa_cons pe_int pa_nil)))) (pg_name (i := 2) scEdges.nd rfl (Or.inl rfl))
      (pss_one (ps_expr (pe_bm PySem.F.plainAttrs_list PySem.F.slot_list_append PySem.F.type_list_append mt_append (pv 1) (pa_cons (pe_tup (pa_cons (pv 2) (pa_cons (pe_callTy call_tuple_of (by rfl) B.tuple_ boot_tuple (pa_cons (pe_lc (own := [("_law_k", 7)]) (g := gName 7) (tt := tYes) rfl scEdges.nd (pi_range1 (by rfl) B.range_ (pa_cons (pe_op op_sub (pv 2) pe_int) pa_nil)) (blkOk_by (N := nEdges) (sc := defScope sEdges) (by decide +kernel)) (fun _ _ _ _ _ => pg_name (i := 7) scEdges.nd rfl (Or.inl rfl)) (fun _ _ _ _ _ => pts_nil) (fun _ _ _ _ _ => (pe_tup (pa_cons (pv 7) (pa_cons (pe_op op_add (pv 7) pe_int) (pa_cons pe_int (pa_cons (pe_tup pa_nil) (pa_cons (pe_tup pa_nil) pa_nil)))))))) pa_nil)) pa_nil))) pa_nil)))))
      (pss_cons (ps_for PassesOwn.never rfl (pi_list (pe_lst (pa_cons (pe_tup (pa_cons (pe_tup (pa_cons pe_int (pa_cons pe_int pa_nil))) pa_nil)) (pa_cons (pe_tup (pa_cons (pe_tup (pa_cons pe_int (pa_cons pe_int pa_nil))) pa_nil)) (pa_cons (pe_tup (pa_cons (pe_tup (pa_cons pe_int (pa_cons pe_int pa_nil))) pa_nil)) (pa_cons (pe_tup (pa_cons (pe_tup (pa_cons pe_int (pa_cons pe_int pa_nil))) pa_nil)) (pa_cons (pe_tup (pa_cons (pe_tup (pa_cons pe_int (pa_cons pe_int pa_nil))) pa_nil)) (pa_cons (pe_tup (pa_cons (pe_tup (pa_cons pe_int (pa_cons (pe_op op_pow pe_int pe_int) pa_nil))) pa_nil)) (pa_cons (pe_tup (pa_cons (pe_tup (pa_cons pe_int (pa_cons (pe_op op_add (pe_op op_pow pe_int pe_int) pe_int) pa_nil))) pa_nil)) pa_nil))))))))) (pg_name (i := 3) scEdges.nd rfl (Or.inl rfl))
      (pss_one (ps_expr (pe_bm PySem.F.plainAttrs_list PySem.F.slot_list_append PySem.F.type_list_append mt_append (pv 1) (pa_cons (pe_tup (pa_cons pe_int (pa_cons (pe_tup (pa_cons (pe_tup (pa_cons pe_int (pa_cons pe_int (pa_cons pe_int (pa_cons (pv 3) (pa_cons (pe_tup pa_nil) pa_nil)))))) pa_nil)) pa_nil))) pa_nil)))))
      (pss_cons (ps_for PassesOwn.never rfl (pi_list (pe_lst (pa_cons (pe_tup (pa_cons (pe_tup (pa_cons pe_int (pa_cons pe_int pa_nil))) (pa_cons (pe_tup (pa_cons pe_int (pa_cons pe_int pa_nil))) pa_nil))) (pa_cons (pe_tup (pa_cons (pe_tup (pa_cons pe_int (pa_cons pe_int pa_nil))) (pa_cons (pe_tup (pa_cons pe_int (pa_cons pe_int pa_nil))) pa_nil))) (pa_cons (pe_lstN (pa_cons (pe_tup (pa_cons pe_int (pa_cons pe_int pa_nil))) pa_nil)) (pa_cons (pe_tup (pa_cons (pe_lstN (pa_cons pe_int (pa_cons pe_int pa_nil))) pa_nil)) (pa_cons (pe_tup (pa_cons (pe_tup (pa_cons pe_int pa_nil)) pa_nil)) (pa_cons (pe_tup (pa_cons (pe_tup (pa_cons pe_bl (pa_cons pe_int pa_nil))) pa_nil)) (pa_cons (pe_tup (pa_cons (pe_tup (pa_cons pe_int (pa_cons pe_bl pa_nil))) pa_nil)) pa_nil))))))))) (pg_name (i := 3) scEdges.nd rfl (Or.inl rfl))
      (pss_one (ps_expr (pe_bm PySem.F.plainAttrs_list PySem.F.slot_list_append PySem.F.type_list_append mt_append (pv 1) (pa_cons (pe_tup (pa_cons pe_int (pa_cons (pe_tup (pa_cons (pe_tup (pa_cons pe_int (pa_cons pe_int (pa_cons pe_int (pa_cons (pv 3) (pa_cons (pe_tup pa_nil) pa_nil)))))) pa_nil)) pa_nil))) pa_nil)))))
      (pss_cons (ps_for PassesOwn.never rfl (pi_list (pe_lst (pa_cons (pe_tup (pa_cons (pe_tup (pa_cons pe_int (pa_cons pe_int pa_nil))) pa_nil)) (pa_cons (pe_tup (pa_cons (pe_tup (pa_cons pe_int (pa_cons (pe_un un_neg pe_int) pa_nil))) pa_nil)) (pa_cons (pe_tup (pa_cons (pe_tup (pa_cons pe_int (pa_cons pe_int pa_nil))) pa_nil)) (pa_cons (pe_tup (pa_cons (pe_tup (pa_cons (pe_un un_neg pe_int) (pa_cons pe_int pa_nil))) pa_nil)) (pa_cons (pe_tup (pa_cons (pe_tup (pa_cons pe_int (pa_cons pe_int pa_nil))) pa_nil)) (pa_cons (pe_tup (pa_cons (pe_tup (pa_cons pe_int (pa_cons pe_int pa_nil))) pa_nil)) (pa_cons (pe_tup (pa_cons (pe_tup (pa_cons pe_int (pa_cons pe_bl pa_nil))) pa_nil)) (pa_cons (pe_tup (pa_cons (pe_tup (pa_cons pe_int (pa_cons pe_int pa_nil))) (pa_cons (pe_tup (pa_cons pe_int (pa_cons (pe_un un_neg pe_int) pa_nil))) pa_nil))) pa_nil)))))))))) (pg_name (i := 4) scEdges.nd rfl (Or.inl rfl))
      (pss_one (ps_expr (pe_bm PySem.F.plainAttrs_list PySem.F.slot_list_append PySem.F.type_list_append mt_append (pv 1) (pa_cons (pe_tup (pa_cons pe_int (pa_cons (pe_tup (pa_cons (pe_tup (pa_cons pe_int (pa_cons pe_int (pa_cons pe_int (pa_cons (pe_tup pa_nil) (pa_cons (pv 4) pa_nil)))))) pa_nil)) pa_nil))) pa_nil)))))
      (pss_cons (ps_for PassesOwn.never rfl (pi_list (pe_lst (pa_cons pe_int (pa_cons pe_int pa_nil)))) (pg_name (i := 5) scEdges.nd rfl (Or.inl rfl))
      (pss_one (ps_expr (pe_bm PySem.F.plainAttrs_list PySem.F.slot_list_append PySem.F.type_list_append mt_append (pv 1) (pa_cons (pe_tup (pa_cons pe_int (pa_cons (pe_tup (pa_cons (pe_tup (pa_cons pe_int (pa_cons pe_int (pa_cons pe_int (pa_cons (pe_callTy call_tuple_of (by rfl) B.tuple_ boot_tuple (pa_cons (pe_lc (own := [("_law_k", 7)]) (g := gName 7) (tt := tYes) rfl scEdges.nd (pi_range1 (by rfl) B.range_ (pa_cons (pv 5) pa_nil)) (blkOk_by (N := nEdges) (sc := defScope sEdges) (by decide +kernel)) (fun _ _ _ _ _ => pg_name (i := 7) scEdges.nd rfl (Or.inl rfl)) (fun _ _ _ _ _ => pts_nil) (fun _ _ _ _ _ => (pe_tup (pa_cons (pe_op op_add (pv 7) pe_int) (pa_cons pe_int pa_nil))))) pa_nil)) (pa_cons (pe_tup pa_nil) pa_nil)))))) pa_nil)) pa_nil))) pa_nil)))))
      (pss_cons (ps_for PassesOwn.never rfl (pi_list (pe_lst (pa_cons pe_int (pa_cons pe_int pa_nil)))) (pg_name (i := 5) scEdges.nd rfl (Or.inl rfl))
      (pss_one (ps_expr (pe_bm PySem.F.plainAttrs_list PySem.F.slot_list_append PySem.F.type_list_append mt_append (pv 1) (pa_cons (pe_tup (pa_cons pe_int (pa_cons (pe_tup (pa_cons (pe_tup (pa_cons pe_int (pa_cons pe_int (pa_cons pe_int (pa_cons (pe_tup pa_nil) (pa_cons (pe_callTy call_tuple_of (by rfl) B.tuple_ boot_tuple (pa_cons (pe_lc (own := [("_law_k", 7)]) (g := gName 7) (tt := tYes) rfl scEdges.nd (pi_range1 (by rfl) B.range_ (pa_cons (pv 5) pa_nil)) (blkOk_by (N := nEdges) (sc := defScope sEdges) (by decide +kernel)) (fun _ _ _ _ _ => pg_name (i := 7) scEdges.nd rfl (Or.inl rfl)) (fun _ _ _ _ _ => pts_nil) (fun _ _ _ _ _ => (pe_tup (pa_cons (pv 7) (pa_cons pe_int pa_nil))))) pa_nil)) pa_nil)))))) pa_nil)) pa_nil))) pa_nil)))))
      (pss_cons (ps_set (i := 6) scEdges.nd rfl (.inl rfl) (pe_callTy call_tuple_of (by rfl) B.tuple_ boot_tuple (pa_cons (pe_lc (own := [("_law_k", 7)]) (g := gName 7) (tt := tYes) rfl scEdges.nd (pi_range1 (by rfl) B.range_ (pa_cons pe_int pa_nil)) (blkOk_by (N := nEdges) (sc := defScope sEdges) (by decide +kernel)) (fun _ _ _ _ _ => pg_name (i := 7) scEdges.nd rfl (Or.inl rfl)) (fun _ _ _ _ _ => pts_nil) (fun _ _ _ _ _ => (pe_tup (pa_cons (pe_op op_add (pv 7) pe_int) (pa_cons pe_int pa_nil))))) pa_nil)))
      (pss_cons (ps_expr (pe_bm PySem.F.plainAttrs_list PySem.F.slot_list_append PySem.F.type_list_append mt_append (pv 1) (pa_cons (pe_tup (pa_cons pe_int (pa_cons (pe_tup (pa_cons (pe_tup (pa_cons pe_int (pa_cons pe_int (pa_cons pe_int (pa_cons (pv 6) (pa_cons (pe_slice sl_tupA (pv 6) po_none (po_some pe_int)) pa_nil)))))) (pa_cons (pe_tup (pa_cons pe_int (pa_cons pe_int (pa_cons pe_int (pa_cons (pv 6) (pa_cons (pe_slice sl_tupA (pv 6) po_none (po_some pe_int)) pa_nil)))))) pa_nil))) pa_nil))) pa_nil)))
      (pss_cons (ps_expr (pe_bm PySem.F.plainAttrs_list PySem.F.slot_list_append PySem.F.type_list_append mt_append (pv 1) (pa_cons (pe_tup (pa_cons pe_int (pa_cons (pe_tup (pa_cons (pe_tup (pa_cons pe_int (pa_cons pe_int (pa_cons pe_int (pa_cons (pv 6) (pa_cons (pe_slice sl_tupA (pv 6) po_none (po_some pe_int)) pa_nil)))))) (pa_cons (pe_tup (pa_cons pe_int (pa_cons pe_int (pa_cons pe_int (pa_cons (pv 6) (pa_cons (pe_slice sl_tupA (pv 6) po_none (po_some pe_int)) pa_nil)))))) pa_nil))) pa_nil))) pa_nil)))
      (pss_one (ps_ret (pe_op op_cat (pv 1) (pe_lst (pa_cons (pe_tup (pa_cons pe_int (pa_cons (pe_tup (pa_cons (pe_tup (pa_cons pe_int (pa_cons pe_int (pa_cons pe_int (pa_cons (pe_op op_catA (pv 6) (pe_tup (pa_cons (pe_tup (pa_cons pe_int (pa_cons pe_int pa_nil))) pa_nil))) (pa_cons (pe_tup pa_nil) pa_nil)))))) (pa_cons (pe_tup (pa_cons pe_int (pa_cons pe_int (pa_cons pe_int (pa_cons (pv 6) (pa_cons (pe_tup pa_nil) pa_nil)))))) pa_nil))) pa_nil))) pa_nil)))))))))))))))))), ?_⟩
    -- far
    refine ⟨10, 12, rfl, rfl, ⟨by decide, by decide, by decide⟩, ?_⟩
    dsimp only [gName]
    refine s_new ?_
    refine Mks.go 10 6 100 (mks_cons (mk_tup (mks_cons (mk_i mi_c (by decide)) (mks_cons (mk_tup mks_nil (by decide)) mks_nil)) (by decide)) (mks_cons (mk_tup (mks_cons (mk_i mi_c (by decide)) (mks_cons (mk_tup mks_nil (by decide)) mks_nil)) (by decide)) (mks_cons (mk_tup (mks_cons (mk_i mi_c (by decide)) (mks_cons (mk_tup mks_nil (by decide)) mks_nil)) (by decide)) (mks_cons (mk_tup (mks_cons (mk_i mi_c (by decide)) (mks_cons (mk_tup (mks_cons (mk_tup (mks_cons (mk_i mi_c (by decide)) (mks_cons (mk_i mi_c (by decide)) (mks_cons (mk_i mi_c (by decide)) (mks_cons (mk_tup mks_nil (by decide)) (mks_cons (mk_tup mks_nil (by decide)) mks_nil))))) (by decide)) mks_nil) (by decide)) mks_nil)) (by decide)) (mks_cons (mk_tup (mks_cons (mk_i mi_c (by decide)) (mks_cons (mk_tup (mks_cons (mk_tup (mks_cons (mk_i mi_c (by decide)) (mks_cons (mk_i mi_c (by decide)) (mks_cons (mk_i mi_c (by decide)) (mks_cons (mk_tup mks_nil (by decide)) (mks_cons (mk_tup mks_nil (by decide)) mks_nil))))) (by decide)) mks_nil) (by decide)) mks_nil)) (by decide)) (mks_cons (mk_tup (mks_cons (mk_i mi_c (by decide)) (mks_cons (mk_tup (mks_cons (mk_tup (mks_cons (mk_i mi_c (by decide)) (mks_cons (mk_i mi_c (by decide)) (mks_cons (mk_i mi_c (by decide)) (mks_cons (mk_tup mks_nil (by decide)) (mks_cons (mk_tup mks_nil (by decide)) mks_nil))))) (by decide)) mks_nil) (by decide)) mks_nil)) (by decide)) mks_nil)))))) (by decide) (by decide) (by decide) tr (fun H1 us1 ds1 k1 t1 D1 lf1 dp1 ct1 ln1 => ?_)
    refine ⟨by rw [D1.len, sizeLine_eq]; omega, fun f1 nf1 => ?_⟩
    have e1 : (upd H1 f1 (.lst us1)) f1 = some (.lst us1) := upd_same
    have g1 : FOO av H (upd H1 f1 (.lst us1)) us1 ds1 10 := ⟨k1.trans (Keep.new nf1), t1.upd, D1.kn nf1, Thg.of lf1 dp1 ct1 (by decide) (by decide), ln1⟩
    generalize upd H1 f1 (.lst us1) = G1 at e1 g1
    refine s_cat rfl ?_
    refine Mks.go 10 6 100 (mks_cons (mk_tup (mks_cons (mk_i mi_c (by decide)) (mks_cons (mk_tup (mks_cons (mk_tup (mks_cons (mk_i mi_c (by decide)) (mks_cons (mk_i mi_c (by decide)) (mks_cons (mk_i mi_c (by decide)) (mks_cons (mk_tup mks_nil (by decide)) (mks_cons (mk_tup mks_nil (by decide)) mks_nil))))) (by decide)) mks_nil) (by decide)) mks_nil)) (by decide)) (mks_cons (mk_tup (mks_cons (mk_i mi_c (by decide)) (mks_cons (mk_tup (mks_cons (mk_tup (mks_cons (mk_i mi_c (by decide)) (mks_cons (mk_i mi_c (by decide)) (mks_cons (mk_i (mi_var rfl) (by decide)) (mks_cons (mk_tup mks_nil (by decide)) (mks_cons (mk_tup mks_nil (by decide)) mks_nil))))) (by decide)) mks_nil) (by decide)) mks_nil)) (by decide)) (mks_cons (mk_tup (mks_cons (mk_i mi_c (by decide)) (mks_cons (mk_tup (mks_cons (mk_tup (mks_cons (mk_i mi_c (by decide)) (mks_cons (mk_i mi_c (by decide)) (mks_cons (mk_i (mi_add (mi_var rfl) mi_c) (by decide)) (mks_cons (mk_tup mks_nil (by decide)) (mks_cons (mk_tup mks_nil (by decide)) mks_nil))))) (by decide)) mks_nil) (by decide)) mks_nil)) (by decide)) mks_nil))) (by decide) (by decide) (by decide) g1.2.1 (fun H2 us2 ds2 k2 t2 D2 lf2 dp2 ct2 ln2 => ?_)
    have lu1 : us1.length ≤ 100 := by rw [g1.2.2.1.len]; omega
    refine ⟨by rw [D2.len, sizeLine_eq]; omega, fun p2 np2 => ⟨f1, p2, us1, us2, rfl, rfl, st np2 (k2.same f1 _ e1), upd_same, by rw [D2.len, sizeLine_eq]; omega, fun f2 nf2 => ?_⟩⟩
    have g2 := g1.cat k2 t2 D2 lf2 dp2 ct2 ln2 (by decide) (by decide) np2 nf2
    have e2 : (upd (upd H2 p2 (.lst us2)) f2 (.lst (us1 ++ us2))) f2 = some (.lst (us1 ++ us2)) := upd_same
    generalize upd (upd H2 p2 (.lst us2)) f2 (.lst (us1 ++ us2)) = G2 at e2 g2
    generalize us1 ++ us2 = vs2 at e2 g2
    generalize ds1 ++ ds2 = es2 at g2
    refine s_cat rfl ?_
    refine Mks.go 10 6 100 (mks_cons (mk_tup (mks_cons (mk_i mi_c (by decide)) (mks_cons (mk_tup (mks_cons (mk_tup (mks_cons (mk_i mi_c (by decide)) (mks_cons (mk_i mi_c (by decide)) (mks_cons (mk_i mi_c (by decide)) (mks_cons (mk_tup mks_nil (by decide)) (mks_cons (mk_tup mks_nil (by decide)) mks_nil))))) (by decide)) mks_nil) (by decide)) mks_nil)) (by decide)) (mks_cons (mk_tup (mks_cons (mk_i mi_c (by decide)) (mks_cons (mk_tup (mks_cons (mk_tup (mks_cons (mk_i mi_c (by decide)) (mks_cons (mk_i mi_c (by decide)) (mks_cons (mk_i mi_c (by decide)) (mks_cons (mk_tup mks_nil (by decide)) (mks_cons (mk_tup mks_nil (by decide)) mks_nil))))) (by decide)) (mks_cons (mk_tup (mks_cons (mk_i mi_c (by decide)) (mks_cons (mk_i mi_c (by decide)) (mks_cons (mk_i mi_c (by decide)) (mks_cons (mk_tup mks_nil (by decide)) (mks_cons (mk_tup mks_nil (by decide)) mks_nil))))) (by decide)) mks_nil)) (by decide)) mks_nil)) (by decide)) mks_nil)) (by decide) (by decide) (by decide) g2.2.1 (fun H3 us3 ds3 k3 t3 D3 lf3 dp3 ct3 ln3 => ?_)
    have lu2 : vs2.length ≤ 100 := by rw [g2.2.2.1.len]; have := g2.2.2.2.2; omega
    refine ⟨by rw [D3.len, sizeLine_eq]; omega, fun p3 np3 => ⟨f2, p3, vs2, us3, rfl, rfl, st np3 (k3.same f2 _ e2), upd_same, by rw [D3.len, sizeLine_eq]; omega, fun f3 nf3 => ?_⟩⟩
    have g3 := g2.cat k3 t3 D3 lf3 dp3 ct3 ln3 (by decide) (by decide) np3 nf3
    have e3 : (upd (upd H3 p3 (.lst us3)) f3 (.lst (vs2 ++ us3))) f3 = some (.lst (vs2 ++ us3)) := upd_same
    generalize upd (upd H3 p3 (.lst us3)) f3 (.lst (vs2 ++ us3)) = G3 at e3 g3
    generalize vs2 ++ us3 = vs3 at e3 g3
    generalize es2 ++ ds3 = es3 at g3
    refine s_cat rfl ?_
    refine Mks.go 10 6 100 (mks_cons (mk_tup (mks_cons (mk_i mi_c (by decide)) (mks_cons (mk_tup (mks_cons (mk_tup (mks_cons (mk_i mi_c (by decide)) (mks_cons (mk_i mi_c (by decide)) (mks_cons (mk_i mi_c (by decide)) (mks_cons (mk_tup mks_nil (by decide)) (mks_cons (mk_tup mks_nil (by decide)) mks_nil))))) (by decide)) (mks_cons (mk_tup (mks_cons (mk_i mi_c (by decide)) (mks_cons (mk_i mi_c (by decide)) (mks_cons (mk_i mi_c (by decide)) (mks_cons (mk_tup mks_nil (by decide)) (mks_cons (mk_tup mks_nil (by decide)) mks_nil))))) (by decide)) (mks_cons (mk_tup (mks_cons (mk_i mi_c (by decide)) (mks_cons (mk_i mi_c (by decide)) (mks_cons (mk_i mi_c (by decide)) (mks_cons (mk_tup mks_nil (by decide)) (mks_cons (mk_tup mks_nil (by decide)) mks_nil))))) (by decide)) mks_nil))) (by decide)) mks_nil)) (by decide)) mks_nil) (by decide) (by decide) (by decide) g3.2.1 (fun H4 us4 ds4 k4 t4 D4 lf4 dp4 ct4 ln4 => ?_)
    have lu3 : vs3.length ≤ 100 := by rw [g3.2.2.1.len]; have := g3.2.2.2.2; omega
    refine ⟨by rw [D4.len, sizeLine_eq]; omega, fun p4 np4 => ⟨f3, p4, vs3, us4, rfl, rfl, st np4 (k4.same f3 _ e3), upd_same, by rw [D4.len, sizeLine_eq]; omega, fun fa nfa => ?_⟩⟩
    have g4 : FOO av H (upd H4 p4 (.lst us4)) (vs3 ++ us4) (es3 ++ ds4) 40 := by
      obtain ⟨k0, t0, D0, th, l0⟩ := g3
      exact ⟨(k0.trans k4).trans (Keep.new np4), t4.upd, ((D0.keep (Keep.of k4)).app D4).kn np4, th.app (Thg.of lf4 dp4 ct4 (by decide) (by decide)), by rw [List.length_append]; omega⟩
    have nH : H fa = none := by
      cases hq : H fa with
      | none => rfl
      | some o => rw [g4.1.same fa o hq] at nfa; cases nfa
    have fo := g4.fo nfa
    generalize upd (upd H4 p4 (.lst us4)) fa (.lst (vs3 ++ us4)) = G5 at fo
    -- sixteen rooms, seventeen
    refine s_loopI 12 3000 (fun _ => rfl) ⟨none, rfl⟩ fo nH (fun J => Mk.mono (mk_tup (mks_cons (mk_i (mi_var rfl) (by decide)) (mks_cons (MkT.mk (mkT_comp (c := 15) (Mi.to (mi_sub (mi_var rfl) mi_c) (by decide)) (by decide) (by decide) (fun _ _ j hj _ => (mk_tup (mks_cons (mk_i (mi_var rfl) (by omega)) (mks_cons (mk_i (mi_add (mi_var rfl) mi_c) (by omega)) (mks_cons (mk_i mi_c (by decide)) (mks_cons (mk_tup mks_nil (by decide)) (mks_cons (mk_tup mks_nil (by decide)) mks_nil))))) (by decide))))) mks_nil)) (by decide)) (by decide) (by decide)) (fun J => Mk.mono (mk_tup (mks_cons (mk_i (mi_var rfl) (by decide)) (mks_cons (MkT.mk (mkT_comp (c := 16) (Mi.to (mi_sub (mi_var rfl) mi_c) (by decide)) (by decide) (by decide) (fun _ _ j hj _ => (mk_tup (mks_cons (mk_i (mi_var rfl) (by omega)) (mks_cons (mk_i (mi_add (mi_var rfl) mi_c) (by omega)) (mks_cons (mk_i mi_c (by decide)) (mks_cons (mk_tup mks_nil (by decide)) (mks_cons (mk_tup mks_nil (by decide)) mks_nil))))) (by decide))))) mks_nil)) (by decide)) (by decide) (by decide)) (by decide) (by decide) (by decide) (fun s2 G6 fo6 => ?_)
    refine s_loopD 7 12 3000 (fun _ => rfl) ⟨none, rfl⟩ fo6 nH (mks_cons (mk_tup (mks_cons (mk_tup (mks_cons (mk_i mi_c (by decide)) (mks_cons (mk_i mi_c (by decide)) mks_nil)) (by decide)) mks_nil) (by decide)) (mks_cons (mk_tup (mks_cons (mk_tup (mks_cons (mk_i mi_c (by decide)) (mks_cons (mk_i mi_c (by decide)) mks_nil)) (by decide)) mks_nil) (by decide)) (mks_cons (mk_tup (mks_cons (mk_tup (mks_cons (mk_i mi_c (by decide)) (mks_cons (mk_i mi_c (by decide)) mks_nil)) (by decide)) mks_nil) (by decide)) (mks_cons (mk_tup (mks_cons (mk_tup (mks_cons (mk_i mi_c (by decide)) (mks_cons (mk_i mi_c (by decide)) mks_nil)) (by decide)) mks_nil) (by decide)) (mks_cons (mk_tup (mks_cons (mk_tup (mks_cons (mk_i mi_c (by decide)) (mks_cons (mk_i mi_c (by decide)) mks_nil)) (by decide)) mks_nil) (by decide)) (mks_cons (mk_tup (mks_cons (mk_tup (mks_cons (mk_i mi_c (by decide)) (mks_cons (mk_i (mi_pow mi_c mi_c ⟨by decide, by decide, by decide⟩) (by decide)) mks_nil)) (by decide)) mks_nil) (by decide)) (mks_cons (mk_tup (mks_cons (mk_tup (mks_cons (mk_i mi_c (by decide)) (mks_cons (mk_i (mi_add (mi_pow mi_c mi_c ⟨by decide, by decide, by decide⟩) mi_c) (by decide)) mks_nil)) (by decide)) mks_nil) (by decide)) mks_nil))))))) (fun J v d dv sm => Mk.mono (mk_tup (mks_cons (mk_i mi_c (by decide)) (mks_cons (mk_tup (mks_cons (mk_tup (mks_cons (mk_i mi_c (by decide)) (mks_cons (mk_i mi_c (by decide)) (mks_cons (mk_i mi_c (by decide)) (mks_cons (mk_var rfl dv sm) (mks_cons (mk_tup mks_nil (by decide)) mks_nil))))) (by decide)) mks_nil) (by decide)) mks_nil)) (by decide)) (by decide) (by decide)) (by decide) (by decide) (by decide) (by decide) (fun s3 G7 fo7 => ?_)
    refine s_loopD 7 12 3000 (fun _ => rfl) ⟨s3, rfl⟩ fo7 nH (mks_cons (mk_tup (mks_cons (mk_tup (mks_cons (mk_i mi_c (by decide)) (mks_cons (mk_i mi_c (by decide)) mks_nil)) (by decide)) (mks_cons (mk_tup (mks_cons (mk_i mi_c (by decide)) (mks_cons (mk_i mi_c (by decide)) mks_nil)) (by decide)) mks_nil)) (by decide)) (mks_cons (mk_tup (mks_cons (mk_tup (mks_cons (mk_i mi_c (by decide)) (mks_cons (mk_i mi_c (by decide)) mks_nil)) (by decide)) (mks_cons (mk_tup (mks_cons (mk_i mi_c (by decide)) (mks_cons (mk_i mi_c (by decide)) mks_nil)) (by decide)) mks_nil)) (by decide)) (mks_cons (mk_lst (mks_cons (mk_tup (mks_cons (mk_i mi_c (by decide)) (mks_cons (mk_i mi_c (by decide)) mks_nil)) (by decide)) mks_nil) (by decide)) (mks_cons (mk_tup (mks_cons (mk_lst (mks_cons (mk_i mi_c (by decide)) (mks_cons (mk_i mi_c (by decide)) mks_nil)) (by decide)) mks_nil) (by decide)) (mks_cons (mk_tup (mks_cons (mk_tup (mks_cons (mk_i mi_c (by decide)) mks_nil) (by decide)) mks_nil) (by decide)) (mks_cons (mk_tup (mks_cons (mk_tup (mks_cons (mk_bl _) (mks_cons (mk_i mi_c (by decide)) mks_nil)) (by decide)) mks_nil) (by decide)) (mks_cons (mk_tup (mks_cons (mk_tup (mks_cons (mk_i mi_c (by decide)) (mks_cons (mk_bl _) mks_nil)) (by decide)) mks_nil) (by decide)) mks_nil))))))) (fun J v d dv sm => Mk.mono (mk_tup (mks_cons (mk_i mi_c (by decide)) (mks_cons (mk_tup (mks_cons (mk_tup (mks_cons (mk_i mi_c (by decide)) (mks_cons (mk_i mi_c (by decide)) (mks_cons (mk_i mi_c (by decide)) (mks_cons (mk_var rfl dv sm) (mks_cons (mk_tup mks_nil (by decide)) mks_nil))))) (by decide)) mks_nil) (by decide)) mks_nil)) (by decide)) (by decide) (by decide)) (by decide) (by decide) (by decide) (by decide) (fun s4 G8 fo8 => ?_)
    refine s_loopD 8 12 3000 (fun _ => rfl) ⟨none, rfl⟩ fo8 nH (mks_cons (mk_tup (mks_cons (mk_tup (mks_cons (mk_i mi_c (by decide)) (mks_cons (mk_i mi_c (by decide)) mks_nil)) (by decide)) mks_nil) (by decide)) (mks_cons (mk_tup (mks_cons (mk_tup (mks_cons (mk_i mi_c (by decide)) (mks_cons (mk_i (mi_neg mi_c) (by decide)) mks_nil)) (by decide)) mks_nil) (by decide)) (mks_cons (mk_tup (mks_cons (mk_tup (mks_cons (mk_i mi_c (by decide)) (mks_cons (mk_i mi_c (by decide)) mks_nil)) (by decide)) mks_nil) (by decide)) (mks_cons (mk_tup (mks_cons (mk_tup (mks_cons (mk_i (mi_neg mi_c) (by decide)) (mks_cons (mk_i mi_c (by decide)) mks_nil)) (by decide)) mks_nil) (by decide)) (mks_cons (mk_tup (mks_cons (mk_tup (mks_cons (mk_i mi_c (by decide)) (mks_cons (mk_i mi_c (by decide)) mks_nil)) (by decide)) mks_nil) (by decide)) (mks_cons (mk_tup (mks_cons (mk_tup (mks_cons (mk_i mi_c (by decide)) (mks_cons (mk_i mi_c (by decide)) mks_nil)) (by decide)) mks_nil) (by decide)) (mks_cons (mk_tup (mks_cons (mk_tup (mks_cons (mk_i mi_c (by decide)) (mks_cons (mk_bl _) mks_nil)) (by decide)) mks_nil) (by decide)) (mks_cons (mk_tup (mks_cons (mk_tup (mks_cons (mk_i mi_c (by decide)) (mks_cons (mk_i mi_c (by decide)) mks_nil)) (by decide)) (mks_cons (mk_tup (mks_cons (mk_i mi_c (by decide)) (mks_cons (mk_i (mi_neg mi_c) (by decide)) mks_nil)) (by decide)) mks_nil)) (by decide)) mks_nil)))))))) (fun J v d dv sm => Mk.mono (mk_tup (mks_cons (mk_i mi_c (by decide)) (mks_cons (mk_tup (mks_cons (mk_tup (mks_cons (mk_i mi_c (by decide)) (mks_cons (mk_i mi_c (by decide)) (mks_cons (mk_i mi_c (by decide)) (mks_cons (mk_tup mks_nil (by decide)) (mks_cons (mk_var rfl dv sm) mks_nil))))) (by decide)) mks_nil) (by decide)) mks_nil)) (by decide)) (by decide) (by decide)) (by decide) (by decide) (by decide) (by decide) (fun s5 G9 fo9 => ?_)
    refine s_loopI 12 3000 (fun _ => rfl) ⟨none, rfl⟩ fo9 nH (fun J => Mk.mono (mk_tup (mks_cons (mk_i mi_c (by decide)) (mks_cons (mk_tup (mks_cons (mk_tup (mks_cons (mk_i mi_c (by decide)) (mks_cons (mk_i mi_c (by decide)) (mks_cons (mk_i mi_c (by decide)) (mks_cons (MkT.mk (mkT_comp (c := 12) (Mi.to (mi_var rfl) (by decide)) (by decide) (by decide) (fun _ _ j hj _ => (mk_tup (mks_cons (mk_i (mi_add (mi_var rfl) mi_c) (by omega)) (mks_cons (mk_i mi_c (by decide)) mks_nil)) (by decide))))) (mks_cons (mk_tup mks_nil (by decide)) mks_nil))))) (by decide)) mks_nil) (by decide)) mks_nil)) (by decide)) (by decide) (by decide)) (fun J => Mk.mono (mk_tup (mks_cons (mk_i mi_c (by decide)) (mks_cons (mk_tup (mks_cons (mk_tup (mks_cons (mk_i mi_c (by decide)) (mks_cons (mk_i mi_c (by decide)) (mks_cons (mk_i mi_c (by decide)) (mks_cons (MkT.mk (mkT_comp (c := 13) (Mi.to (mi_var rfl) (by decide)) (by decide) (by decide) (fun _ _ j hj _ => (mk_tup (mks_cons (mk_i (mi_add (mi_var rfl) mi_c) (by omega)) (mks_cons (mk_i mi_c (by decide)) mks_nil)) (by decide))))) (mks_cons (mk_tup mks_nil (by decide)) mks_nil))))) (by decide)) mks_nil) (by decide)) mks_nil)) (by decide)) (by decide) (by decide)) (by decide) (by decide) (by decide) (fun s6 Ga foa => ?_)
    refine s_loopI 12 3000 (fun _ => rfl) ⟨s6, rfl⟩ foa nH (fun J => Mk.mono (mk_tup (mks_cons (mk_i mi_c (by decide)) (mks_cons (mk_tup (mks_cons (mk_tup (mks_cons (mk_i mi_c (by decide)) (mks_cons (mk_i mi_c (by decide)) (mks_cons (mk_i mi_c (by decide)) (mks_cons (mk_tup mks_nil (by decide)) (mks_cons (MkT.mk (mkT_comp (c := 6) (Mi.to (mi_var rfl) (by decide)) (by decide) (by decide) (fun _ _ j hj _ => (mk_tup (mks_cons (mk_i (mi_var rfl) (by omega)) (mks_cons (mk_i mi_c (by decide)) mks_nil)) (by decide))))) mks_nil))))) (by decide)) mks_nil) (by decide)) mks_nil)) (by decide)) (by decide) (by decide)) (fun J => Mk.mono (mk_tup (mks_cons (mk_i mi_c (by decide)) (mks_cons (mk_tup (mks_cons (mk_tup (mks_cons (mk_i mi_c (by decide)) (mks_cons (mk_i mi_c (by decide)) (mks_cons (mk_i mi_c (by decide)) (mks_cons (mk_tup mks_nil (by decide)) (mks_cons (MkT.mk (mkT_comp (c := 7) (Mi.to (mi_var rfl) (by decide)) (by decide) (by decide) (fun _ _ j hj _ => (mk_tup (mks_cons (mk_i (mi_var rfl) (by omega)) (mks_cons (mk_i mi_c (by decide)) mks_nil)) (by decide))))) mks_nil))))) (by decide)) mks_nil) (by decide)) mks_nil)) (by decide)) (by decide) (by decide)) (by decide) (by decide) (by decide) (fun s7 Gb fob => ?_)
    refine MkT.go (mkT_comp (c := 6) (Mi.to mi_c (by decide)) (by decide) (by decide) (fun _ _ j hj _ => (mk_tup (mks_cons (mk_i (mi_add (mi_var rfl) mi_c) (by omega)) (mks_cons (mk_i mi_c (by decide)) mks_nil)) (by decide)))) fob.2.1 fun Gc v6 d6 kc tc dv sm l6 => ?_
    dsimp only [gName]
    have foc := fob.go kc tc
    refine s_push rfl foc nH (mk_tup (mks_cons (mk_i mi_c (by decide)) (mks_cons (mk_tup (mks_cons (mk_tup (mks_cons (mk_i mi_c (by decide)) (mks_cons (mk_i mi_c (by decide)) (mks_cons (mk_i mi_c (by decide)) (mks_cons (mk_var rfl dv sm) (mks_cons (mk_sl 3 rfl dv sm) mks_nil))))) (by decide)) (mks_cons (mk_tup (mks_cons (mk_i mi_c (by decide)) (mks_cons (mk_i mi_c (by decide)) (mks_cons (mk_i mi_c (by decide)) (mks_cons (mk_var rfl dv sm) (mks_cons (mk_sl 3 rfl dv sm) mks_nil))))) (by decide)) mks_nil)) (by decide)) mks_nil)) (by decide)) (by decide) (by decide) (by decide) (fun Gd kd fod => ?_)
    replace dv := dv.keep kd
    refine s_push rfl fod nH (mk_tup (mks_cons (mk_i mi_c (by decide)) (mks_cons (mk_tup (mks_cons (mk_tup (mks_cons (mk_i mi_c (by decide)) (mks_cons (mk_i mi_c (by decide)) (mks_cons (mk_i mi_c (by decide)) (mks_cons (mk_var rfl dv sm) (mks_cons (mk_sl 4 rfl dv sm) mks_nil))))) (by decide)) (mks_cons (mk_tup (mks_cons (mk_i mi_c (by decide)) (mks_cons (mk_i mi_c (by decide)) (mks_cons (mk_i mi_c (by decide)) (mks_cons (mk_var rfl dv sm) (mks_cons (mk_sl 3 rfl dv sm) mks_nil))))) (by decide)) mks_nil)) (by decide)) mks_nil)) (by decide)) (by decide) (by decide) (by decide) (fun Ge ke foe => ?_)
    replace dv := dv.keep ke
    refine s_ret rfl ?_
    refine Mks.go 10 12 3000 (mks_cons (mk_tup (mks_cons (mk_i mi_c (by decide)) (mks_cons (mk_tup (mks_cons (mk_tup (mks_cons (mk_i mi_c (by decide)) (mks_cons (mk_i mi_c (by decide)) (mks_cons (mk_i mi_c (by decide)) (mks_cons (mk_cat rfl dv sm (by omega) (mks_cons (mk_tup (mks_cons (mk_i mi_c (by decide)) (mks_cons (mk_i mi_c (by decide)) mks_nil)) (by decide)) mks_nil) (by decide)) (mks_cons (mk_tup mks_nil (by decide)) mks_nil))))) (by decide)) (mks_cons (mk_tup (mks_cons (mk_i mi_c (by decide)) (mks_cons (mk_i mi_c (by decide)) (mks_cons (mk_i mi_c (by decide)) (mks_cons (mk_var rfl dv sm) (mks_cons (mk_tup mks_nil (by decide)) mks_nil))))) (by decide)) mks_nil)) (by decide)) mks_nil)) (by decide)) mks_nil) (by decide) (by decide) (by decide) foe.2.1 (fun Gf us2 ds2 kf tf D2 lf dp ct ln => ?_)
    obtain ⟨k0, _, us, ds, eu, dd, th, ld⟩ := foe
    refine ⟨by rw [D2.len, sizeLine_eq]; omega, fun p np => ⟨fa, p, us, us2, rfl, rfl, st np (kf.same fa _ eu), upd_same, by rw [D2.len, dd.len, sizeLine_eq]; omega, fun f nf => ?_⟩⟩
    have tav : Tr av Gf := fun a m => tf a (List.mem_cons_of_mem _ m)
    have dall : Dts av _ (us ++ us2) (ds ++ ds2) := ((((dd.keep (Keep.of kf)).app D2).less fun a m => List.mem_cons_of_mem _ m).kn (o := .lst us2) np).kn (o := .lst (us ++ us2)) nf
    have fav : f ∉ av := fun m => by
      obtain ⟨o, e⟩ := tav.upd (p := p) (o := .lst us2) f m
      rw [nf] at e; cases e
    exact q _ f (us ++ us2) (ds ++ ds2) ((k0.trans kf).trans ((Keep.new np).trans (Keep.new nf))) upd_same fav dall (th.app (Thg.of lf dp ct (by decide) (by decide))) (by rw [List.length_append]; omega) tav.upd.upd
end
end Rw

namespace Rw
open PySem PySem.Spec PyProof.Rows L2
def aStr : PyData → Bool
  | .str _ => true
  | _ => false
theorem kit_str (d : PyData) : kitB (tn d) "str" = some (aStr d) := by
  cases d <;> first | exact (show kitB "NoneType" "str" = some false by decide +kernel) | exact (show kitB "bool" "str" = some false by decide +kernel) | exact (show kitB "int" "str" = some false by decide +kernel) | exact (show kitB "str" "str" = some true by decide +kernel) | exact (show kitB "list" "str" = some false by decide +kernel) | exact (show kitB "tuple" "str" = some false by decide +kernel) | exact (show kitB "dict" "str" = some false by decide +kernel)
def aLst : PyData → Bool
  | .list _ => true
  | _ => false
theorem kit_lst (d : PyData) : kitB (tn d) "list" = some (aLst d) := by
  cases d <;> first | exact (show kitB "NoneType" "list" = some false by decide +kernel) | exact (show kitB "bool" "list" = some false by decide +kernel) | exact (show kitB "int" "list" = some false by decide +kernel) | exact (show kitB "str" "list" = some false by decide +kernel) | exact (show kitB "list" "list" = some true by decide +kernel) | exact (show kitB "tuple" "list" = some false by decide +kernel) | exact (show kitB "dict" "list" = some false by decide +kernel)
theorem kit_int_lt {K : PySem.W.Frag} : PySem.W.kitAny K (.type "int") [.type "list", .type "tuple"] = some false :=
  kitAny_cons (kit_ty (r := false) (by decide +kernel)) (fun _ => kitAny_cons (kit_ty (r := false) (by decide +kernel)) (fun _ => rfl) (fun e => by cases e)) (fun e => by cases e)
theorem kit_tup_lt {K : PySem.W.Frag} : PySem.W.kitAny K (.type "tuple") [.type "list", .type "tuple"] = some true :=
  kitAny_cons (kit_ty (r := false) (by decide +kernel)) (fun _ => kitAny_cons (kit_ty (r := true) (by decide +kernel)) (fun e => by cases e) (fun _ => rfl)) (fun e => by cases e)
theorem dts_ints {av : List Addr} {H : Hp} : ∀ is : List Int, Dts av H (is.map V.int) (is.map PyData.int)
  | [] => .nil
  | i :: is => .cons (.int i) (dts_ints is)
section
variable {P : Program} {w : World} {K : PySem.W.Frag} {mg : Str → Option Value} {base : Heap}
abbrev sSame : Stmt := topS 28
abbrev nSame : List Str := ["_law_found", "_law_due", "_law_k"]
theorem scSame : FnScope nSame ["_law_found", "_law_due"] (defScope sSame) := ⟨rfl, rfl, rfl, by decide +kernel, rfl, by decide +kernel, by decide +kernel⟩
def spSame0 : Sp := fun vs H Q _ => ∃ (i j : Int), vs = [.int i, .int j] ∧ ∀ H', Keep [] H H' → Q (.bl (decide (i = j))) H'
theorem ok_same0 (h : Has K mg "_law_same" sSame) (B : Blt mg) : Can P w K mg base "_law_same" ["_law_found", "_law_due"] 1 spSame0 := by
  obtain ⟨f, fd, F, g⟩ := h
  refine ⟨f, fd, F.ok (k := 0) scSame (fun vs H Q E h => ?_) (fun cdv A outer s H vs Q E hr h => ?_), g, F.kp, F.binds fun _ _ _ _ _ _ us hl => match us, hl with | [_, _], _ => rfl⟩
  · obtain ⟨i, j, rfl, _⟩ := h
    rfl
  · obtain ⟨i, j, rfl, q⟩ := h
    refine ⟨_, pss_cons (ps_if (pt_val (pe_callB call_isiT (by rfl) B.isi boot_isinstance (pa_cons (pv 1) (pa_cons (pe_tup (pa_cons (pe_bltn (v := .ty "list") (by rfl) B.list_ boot_list rfl) (pa_cons (pe_bltn (v := .ty "tuple") (by rfl) B.tuple_ boot_tuple rfl) pa_nil))) pa_nil)))) (pss_cons ps_never
      (pss_cons ps_never
      (pss_one ps_never))) pss_nil)
      (pss_cons (ps_if (pt_cmpR op_isN (pv 1) pe_non (nomark _)) (pss_one ps_never) pss_nil)
      (pss_cons (ps_if (pt_val (pe_callB (call_isD kit_str) (by rfl) B.isi boot_isinstance (pa_cons (pv 1) (pa_cons (pe_bltn (v := .ty "str") (by rfl) B.str_ boot_str rfl) pa_nil)))) (pss_one ps_never) pss_nil)
      (pss_one (ps_ret (pe_and (pe_callB (call_isD kit_int) (by rfl) B.isi boot_isinstance (pa_cons (pv 0) (pa_cons (pe_bltn (v := .ty "int") (by rfl) B.int_ boot_int rfl) pa_nil))) (pe_and (pe_cmpR op_eq (pe_callB (call_isD kit_bool) (by rfl) B.isi boot_isinstance (pa_cons (pv 0) (pa_cons (pe_bltn (v := .ty "bool") (by rfl) B.bool_ boot_bool rfl) pa_nil))) (pe_callB (call_isD kit_bool) (by rfl) B.isi boot_isinstance (pa_cons (pv 1) (pa_cons (pe_bltn (v := .ty "bool") (by rfl) B.bool_ boot_bool rfl) pa_nil))) (nomark _)) (pe_one (pe_cmpR op_eq (pv 0) (pv 1) (nomark _))))))))), ?_⟩
    refine ⟨.int j, rfl, show 2 ≤ sizeLine by decide, fun T nT => ⟨.int j, T, _, .type "int", [.type "list", .type "tuple"], false, rfl, upd_same, .cons (.ty _) (.cons (.ty _) .nil), .base (.int j), kit_int_lt, _, rfl, ?_⟩⟩
    refine iteF ?_
    refine ⟨.int j, rfl, rfl, _, rfl, ?_⟩
    rw [show decide (V.int j = V.non) = false from decide_eq_false (fun e => by cases e)]
    refine iteF ?_
    refine ⟨.int j, rfl, .int j, .int j, [], rfl, .int j, _, rfl, ?_⟩
    refine iteF ?_
    refine ⟨.int i, rfl, .int i, .int i, [], rfl, .int i, _, rfl, ?_⟩
    refine iteT ?_
    refine ⟨.int i, rfl, .int i, .int i, [], rfl, .int i, .int j, rfl, .int j, .int j, [], rfl, .int j, rfl, _, rfl, ?_⟩
    refine iteT ?_
    refine ⟨.int i, rfl, .int j, rfl, rfl, ?_⟩
    have e : decide (V.int i = V.int j) = decide (i = j) := by rw [Bool.eq_iff_iff]; simp
    rw [e]
    exact q _ (Keep.new nT)
def spSame : Sp := fun vs H Q _ => ∃ (a b : Addr) (is : List Int), vs = [.ref a, .ref b] ∧ H a = some (.tup (is.map V.int)) ∧ H b = some (.tup (is.map V.int)) ∧ is.length ≤ 10 ∧ ∀ H', Keep [] H H' → Q (.bl true) H'
theorem ok_same (h : Has K mg "_law_same" sSame) (B : Blt mg) (C0 : Can P w K mg base "_law_same" ["_law_found", "_law_due"] 1 spSame0) : Can P w K mg base "_law_same" ["_law_found", "_law_due"] 2 spSame := by
  obtain ⟨f, fd, F, g⟩ := h
  refine ⟨f, fd, F.ok (k := 1) scSame (fun vs H Q E h => ?_) (fun cdv A outer s H vs Q E hr h => ?_), g, F.kp, F.binds fun _ _ _ _ _ _ us hl => match us, hl with | [_, _], _ => rfl⟩
  · obtain ⟨a, b, is, rfl, _⟩ := h
    rfl
  · obtain ⟨a, b, is, rfl, ea, eb, ln, q⟩ := h
    refine ⟨_, pss_cons (ps_if (pt_val (pe_callB call_isiT (by rfl) B.isi boot_isinstance (pa_cons (pv 1) (pa_cons (pe_tup (pa_cons (pe_bltn (v := .ty "list") (by rfl) B.list_ boot_list rfl) (pa_cons (pe_bltn (v := .ty "tuple") (by rfl) B.tuple_ boot_tuple rfl) pa_nil))) pa_nil)))) (pss_cons (ps_if (PW.pt (pw_or (pt_cmpR op_ne (pe_callB (call_isD kit_lst) (by rfl) B.isi boot_isinstance (pa_cons (pv 0) (pa_cons (pe_bltn (v := .ty "list") (by rfl) B.list_ boot_list rfl) pa_nil))) (pe_callB (call_isD kit_lst) (by rfl) B.isi boot_isinstance (pa_cons (pv 1) (pa_cons (pe_bltn (v := .ty "list") (by rfl) B.list_ boot_list rfl) pa_nil))) (nomark _)) (pw_or1 (pt_cmpR op_ne (pe_callB (call_isD kit_tup) (by rfl) B.isi boot_isinstance (pa_cons (pv 0) (pa_cons (pe_bltn (v := .ty "tuple") (by rfl) B.tuple_ boot_tuple rfl) pa_nil))) (pe_callB (call_isD kit_tup) (by rfl) B.isi boot_isinstance (pa_cons (pv 1) (pa_cons (pe_bltn (v := .ty "tuple") (by rfl) B.tuple_ boot_tuple rfl) pa_nil))) (nomark _))))) (pss_one (ps_ret pe_bl)) pss_nil)
      (pss_cons (ps_if (pt_cmpR op_ne (pe_callB call_len_seq (by rfl) B.len_ PySem.boot_len (pa_cons (pv 0) pa_nil)) (pe_callB call_len_seq (by rfl) B.len_ PySem.boot_len (pa_cons (pv 1) pa_nil)) (nomark _)) (pss_one (ps_ret pe_bl)) pss_nil)
      (pss_one (ps_ret (pe_cmpR (op_eqNilL hr.units0) (pe_lc (own := [("_law_k", 2)]) (g := gName 2) rfl scSame.nd (pi_range1 (by rfl) B.range_ (pa_cons (pe_callB call_len_seq (by rfl) B.len_ PySem.boot_len (pa_cons (pv 1) pa_nil)) pa_nil)) (blkOk_by (N := nSame) (sc := defScope sSame) (by decide +kernel)) (fun _ _ _ _ _ => pg_name (i := 2) scSame.nd rfl (Or.inl rfl)) (fun _ _ _ _ _ => pts_one (pt_not (pt_val (pe_can C0 (hr.mono (by decide)) (by rfl) (pa_cons (pe_ix (ix_tupK (K := K) rfl) (pv 0) (pv 2) (fun _ _ => rfl)) (pa_cons (pe_ix (ix_tupK (K := K) rfl) (pv 1) (pv 2) (fun _ _ => rfl)) pa_nil)))))) (fun _ _ _ _ _ => (pv 2))) (pe_lst pa_nil) (nomark _)))))) pss_nil)
      (pss_cons ps_never
      (pss_cons ps_never
      (pss_one ps_never))), ?_⟩
    refine ⟨.ref b, rfl, show 2 ≤ sizeLine by decide, fun T nT => ⟨.ref b, T, _, .type "tuple", [.type "list", .type "tuple"], true, rfl, upd_same, .cons (.ty _) (.cons (.ty _) .nil), .base (.tup (st nT eb)), kit_tup_lt, _, rfl, ?_⟩⟩
    refine iteT ?_
    have da : ∀ {G : Hp}, G a = some (.tup (is.map V.int)) → Dt [] G (.ref a) (.tuple (is.map PyData.int)) := fun e => .tup List.not_mem_nil e (dts_ints is)
    have db : ∀ {G : Hp}, G b = some (.tup (is.map V.int)) → Dt [] G (.ref b) (.tuple (is.map PyData.int)) := fun e => .tup List.not_mem_nil e (dts_ints is)
    replace ea := st (o := .tup [.ty "list", .ty "tuple"]) nT ea
    replace eb := st (o := .tup [.ty "list", .ty "tuple"]) nT eb
    have kT : Keep [] H (upd H T (.tup [.ty "list", .ty "tuple"])) := Keep.new nT
    generalize upd H T (.tup [.ty "list", .ty "tuple"]) = G at ea eb kT
    refine ⟨.ref a, rfl, _, _, [], rfl, da ea, .ref b, rfl, _, _, [], rfl, db eb, rfl, _, rfl, ?_⟩
    refine iteF ?_
    refine ⟨.ref a, rfl, _, _, [], rfl, da ea, .ref b, rfl, _, _, [], rfl, db eb, rfl, _, rfl, ?_⟩
    refine iteF ?_
    refine ⟨.ref a, rfl, a, _, rfl, .inr (SqT.of ea), .ref b, rfl, b, _, rfl, .inr (SqT.of eb), rfl, _, rfl, ?_⟩
    refine iteNS rfl ?_
    refine ⟨.ref b, rfl, b, _, rfl, .inr (SqT.of eb), _, rfl, by omega, by rw [List.length_map]; omega, fun W nW => ?_⟩
    refine lc_range (lo := 0) (n := (((is.map V.int).length : Int)).toNat) (FI W G fun k => true) (FI.start nW) (fun j J hj p => ?_) (fun J p => ?_)
    · have lj : j < is.length := by rw [List.length_map] at hj; omega
      have ea5 := p.1.same a _ ea
      have eb5 := p.1.same b _ eb
      have ej : (is.map V.int)[j]? = some (.int is[j]) := by rw [List.getElem?_map, List.getElem?_eq_getElem lj]; rfl
      refine ⟨rfl, .ref a, rfl, .int (0 + (j : Int)), rfl, a, _, 0 + (j : Int), _, rfl, rfl, SqT.of ea5, atI_of (by omega) (by rw [show (0 + (j : Int)).toNat = j by omega]; exact ej), .ref b, rfl, .int (0 + (j : Int)), rfl, b, _, 0 + (j : Int), _, rfl, rfl, SqT.of eb5, atI_of (by omega) (by rw [show (0 + (j : Int)).toNat = j by omega]; exact ej), is[j], is[j], rfl, fun J2 k2 => ⟨_, rfl, ?_⟩⟩
      rw [decide_eq_true (rfl : is[j] = is[j])]
      refine iteF ?_
      exact (p.go k2).skip rfl
    · obtain ⟨k3, ws, ew, lw, zw⟩ := p
      refine ⟨show 0 ≤ sizeLine by decide, fun z nz => ?_⟩
      refine ⟨W, z, ws, rfl, rfl, SqL.of (st nz ew), SqL.of upd_same, ?_⟩
      have e : ws.isEmpty = true := by rw [zw]; exact List.all_eq_true.mpr fun _ _ => rfl
      have := q _ ((kT.trans k3).trans (Keep.new (o := .lst []) nz))
      rw [← e] at this
      exact this
end
end Rw

namespace Rw
open PySem PySem.Spec PyProof.Rows L2
section
variable {X : Cx}
def rReprA : List V → Hp → VK → Prop := fun xs H Q => ∃ (v : V) (d : PyData) (av : List Addr), xs = [v] ∧ Dt av H v d ∧ d.showable = true ∧ d.depth ≤ 64 ∧ d.shown.length ≤ sizeLine ∧ Q (.str d.shown) H
theorem call_reprA (hg : X.A.guards = some []) (hu : X.A.units + 70 < cLine) : CallR X (.builtin "repr") rReprA := by
  intro pins s σ H xs us Q I r h
  obtain ⟨v, d, av, rfl, hd, hs, hdp, hz, q⟩ := h
  obtain ⟨u, rfl, ru⟩ := vals1 r
  obtain ⟨as, rd, na⟩ := Dt.told I d _ _ hd ru
  cases hd with
  | non => cases ru; rw [PyData.shown_none] at q; exact PySem.P.repr_of_none ⟨.str _, H, I.tok _, ⟨_, rfl⟩, q⟩
  | bl b => cases ru; rw [PyData.shown_bool] at q; exact PySem.P.repr_of_bool ⟨.str _, H, I.tok _, ⟨_, rfl⟩, by cases b <;> exact q⟩
  | int i =>
    obtain ⟨t, rfl⟩ := ru
    rw [PyData.shown_int] at q
    exact PySem.P.repr_of_int (by simpa only [PyData.showable, decide_eq_true_eq] using hs) ⟨.str _, H, I.tok _, ⟨_, rfl⟩, q⟩
  | str x =>
    obtain ⟨t, rfl⟩ := ru
    rw [PyData.shown_str] at q hz
    exact PySem.P.repr_of_str ⟨.str _, H, I.tok _, ⟨_, rfl⟩, q⟩ hz
  | lst _ _ _ _ =>
    cases ru
    exact repr_of_reads' rd hs (fun _ => na) hg (by omega) (fun _ _ e => e) (fun h' t tk k => ⟨.str _, H, I.kept (t' := tk) k, ⟨t, rfl⟩, q⟩) hz
  | tup _ _ _ =>
    cases ru
    exact repr_of_reads' rd hs (fun _ => na) hg (by omega) (fun _ _ e => e) (fun h' t tk k => ⟨.str _, H, I.kept (t' := tk) k, ⟨t, rfl⟩, q⟩) hz
  | dct _ _ =>
    cases ru
    exact repr_of_reads' rd hs (fun _ => na) hg (by omega) (fun _ _ e => e) (fun h' t tk k => ⟨.str _, H, I.kept (t' := tk) k, ⟨t, rfl⟩, q⟩) hz
end
/-! one thing, shown -/
theorem one_shown {M m n : Nat} {x : PyData} (h : Sm M m n x) (b1 : M ≤ big) (b3 : m ≤ 20) (b5 : n ≤ 5000) : x.showable = true ∧ x.depth ≤ 64 ∧ x.shown.length ≤ sizeLine := by
  have l1 := leafy_mono b1 x h.lf
  have d1 := h.dp
  have c1 := h.ct
  refine ⟨show_ok (Nat.le_refl _) _ l1, by omega, ?_⟩
  have := show_le (Nat.le_refl _) _ l1
  rw [sizeLine_eq]
  omega
theorem bool_shown (b : Bool) : (PyData.bool b).showable = true ∧ (PyData.bool b).depth ≤ 64 ∧ (PyData.bool b).shown.length ≤ sizeLine := by
  cases b <;> exact ⟨by decide +kernel, by decide +kernel, by decide +kernel⟩
end Rw

namespace Rw
open PySem PySem.Spec PyProof.Rows L2
theorem rise_prs {hi : Int} : ∀ (na : List (Int × Int)) (lo : Int), (na.map (·.1)).Pairwise (· < ·) → (∀ p ∈ na, lo ≤ p.1 ∧ p.1 ≤ hi) → rise hi lo (na.map prD) = true
  | [], _, _, _ => rfl
  | p :: na, lo, hp, hb => by
    rw [List.map_cons] at hp
    obtain ⟨h1, h2⟩ := List.pairwise_cons.mp hp
    have hb0 := hb p List.mem_cons_self
    have ih := rise_prs (hi := hi) na (p.1 + 1) h2 fun q m => by
      have := h1 q.1 (List.mem_map_of_mem m)
      have := hb q (List.mem_cons_of_mem _ m)
      omega
    show (within (.int p.1) lo hi && rise hi (p.1 + 1) (na.map prD)) = true
    rw [ih, Bool.and_true]
    show (decide (lo ≤ p.1) && decide (p.1 ≤ hi)) = true
    rw [decide_eq_true hb0.1, decide_eq_true hb0.2]; rfl
theorem in_int {i lo hi : Int} (h0 : lo ≤ i) (h1 : i ≤ hi) : within (.int i) lo hi = true := by
  show (decide (lo ≤ i) && decide (i ≤ hi)) = true
  rw [decide_eq_true h0, decide_eq_true h1]; rfl
theorem pipe_is {n : Int} {p : Pi} (h : p.ok n) : isPipeB n p.dat = true := by
  have f := h.fit
  have a1 := in_int (lo := 1) (hi := n - 1) (show 1 ≤ p.y by have := h.x0; have := h.xy; omega) h.y1
  have a2 := in_int (lo := 0) (hi := p.y - 1) h.x0 (by have := h.xy; omega)
  have a3 := in_int (lo := 1) (hi := 1000000000000) f.l1 f.l2
  have a4 : narr p.l (.tuple (p.na.map prD)) = true := by
    unfold narr
    rw [show rising (.tuple (p.na.map prD)) 1 (p.l - 1) = true from rise_prs p.na 1 f.nup fun q m => ⟨(f.nin q m).1, (f.nin q m).2.1⟩, Bool.true_and]
    refine List.all_eq_true.mpr fun d m => ?_
    obtain ⟨q, mq, rfl⟩ := List.mem_map.mp (show d ∈ p.na.map prD from m)
    exact in_int (f.nin q mq).2.2.1 (f.nin q mq).2.2.2
  have a5 : flps p.l (.tuple (p.fl.map prD)) = true := by
    unfold flps
    rw [show rising (.tuple (p.fl.map prD)) 0 (p.l - 1) = true from rise_prs p.fl 0 f.fup fun q m => ⟨(f.fin q m).1, (f.fin q m).2.1⟩, Bool.true_and]
    refine List.all_eq_true.mpr fun d m => ?_
    obtain ⟨q, mq, rfl⟩ := List.mem_map.mp (show d ∈ p.fl.map prD from m)
    show (decide (q.2 = 1) || decide (q.2 = -1)) = true
    rcases (f.fin q mq).2.2 with e | e <;> rw [e] <;> rfl
  show (within (.int p.y) 1 (n - 1) && within (.int p.x) 0 (p.y - 1) && within (.int p.l) 1 1000000000000 && narr p.l (.tuple (p.na.map prD)) && flps p.l (.tuple (p.fl.map prD))) = true
  rw [a1, a2, a3, a4, a5]; rfl
theorem house_is {n : Int} {ps : List Pi} (n0 : 1 ≤ n) (n1 : n ≤ 16) (ln : (ps.length : Int) = n - 1) (ok : ∀ p ∈ ps, p.ok n) (con : Con n.toNat (edges ps)) (s1 : (ps.map fun p => p.na.length).sum ≤ 12) (s2 : (ps.map fun p => p.fl.length).sum ≤ 6) : isHouseB (houseD n (ps.map Pi.dat)) = true := by
  have e1 : (ps.map Pi.dat).map edD = edges ps := by rw [List.map_map]; rfl
  have e2 : (ps.map Pi.dat).map naL = ps.map fun p => p.na.length := by
    rw [List.map_map]
    refine List.map_congr_left fun p _ => ?_
    show (p.na.map prD).length = _
    rw [List.length_map]
  have e3 : (ps.map Pi.dat).map flL = ps.map fun p => p.fl.length := by
    rw [List.map_map]
    refine List.map_congr_left fun p _ => ?_
    show (p.fl.map prD).length = _
    rw [List.length_map]
  have a1 := in_int n0 n1
  have a2 : decide (((ps.map Pi.dat).length : Int) = n - 1) = true := by rw [List.length_map]; exact decide_eq_true ln
  have a3 : (ps.map Pi.dat).all (isPipeB n) = true := by
    refine List.all_eq_true.mpr fun d m => ?_
    obtain ⟨p, mp, rfl⟩ := List.mem_map.mp m
    exact pipe_is (ok p mp)
  have a4 : joins (Rw.start n.toNat) ((ps.map Pi.dat).map edD) = true := by
    rw [e1]
    refine (joins_iff (by omega) (fun e m => ?_) ?_).mpr con
    · obtain ⟨p, mp, rfl⟩ := List.mem_map.mp m
      have hp := ok p mp
      have := hp.x0; have := hp.x1; have := hp.y0; have := hp.y1
      exact ⟨by show p.x.toNat < _; omega, by show p.y.toNat < _; omega⟩
    · show (ps.map _).length + 1 = _
      rw [List.length_map]; omega
  have a5 : fewB (ps.map Pi.dat) = true := by
    unfold fewB
    rw [e2, e3, decide_eq_true s1, decide_eq_true s2]; rfl
  show (within (.int n) 1 16 && decide (((ps.map Pi.dat).length : Int) = n - 1) && (ps.map Pi.dat).all (isPipeB n) && (joins (Rw.start n.toNat) ((ps.map Pi.dat).map edD) && fewB (ps.map Pi.dat))) = true
  rw [a1, a2, a3, a4, a5]; rfl
end Rw

namespace Rw
open PySem PySem.Spec PyProof.Rows L2
section
variable {av : List Addr} {σ : L2.St} {H0 : Hp}
theorem mk_non : Mk av (tC .non) σ H0 0 1 := fun H Q _ tr q => q H _ _ (Keep.refl _ _) tr .non ⟨by simp only [leafy], by simp only [PyData.depth]; omega, by simp only [cnt]; omega⟩
theorem mk_str (x : Str) (h : (reprText x).length ≤ 2000) : Mk av (tC (.str x)) σ H0 0 1 := fun H Q _ tr q => q H _ _ (Keep.refl _ _) tr (.str x) ⟨by simp only [leafy]; exact h, by simp only [PyData.depth]; omega, by simp only [cnt]; omega⟩
theorem mk_dct : Mk av tDNewK σ H0 1 1 := fun H Q _ tr q p np => q _ _ _ (Keep.new np) tr.upd (Dt.newD tr np) ⟨by simp only [leafy], by simp only [PyData.depth, PyData.depthKv]; omega, by simp only [cnt]; omega⟩
end
theorem whole_and (d : PyData) : (if aInt d = true then !aBool d else false) = whole d := by cases d <;> rfl
section
variable {P : Program} {w : World} {K : PySem.W.Frag} {mg : Str → Option Value} {base : Heap}
abbrev sLaw : Stmt := topS 44
abbrev nLaw : List Str := ["_law_script", "_law_deck_here", "_law_some", "_law_turn", "_law_house_here", "_law_bent", "_law_thing", "_law_kept", "_law_found"]
theorem scLaw : FnScope nLaw ["_law_script"] (defScope sLaw) := ⟨rfl, rfl, rfl, by decide +kernel, rfl, by decide +kernel, by decide +kernel⟩
def spLaw (K : PySem.W.Frag) : Sp := fun vs H Q _ => ∃ (a : Addr) (ns : List Int), vs = [.ref a] ∧ SqL K H a (ns.map V.int) ∧ ns.length ≤ 63 ∧ ∀ H', Q (.bl true) H'
theorem ok_law {f : Addr} {fd : FuncData} (F : Fun K "law" "law" sLaw f fd) (B : Blt mg) (cs : Cst mg) (CD : Can P w K mg base "_law_deck" ["_law_script"] 1 (spDeck K)) (CN : Can P w K mg base "_law_next" ["_law_deck_here", "_law_many"] 1 spNext)
    (CH : Can P w K mg base "_law_house" ["_law_deck_here", "_law_most", "_law_far", "_law_flaps"] 6 spHouse) (CG : Can P w K mg base "_law_edges" [] 1 spEdges)
    (CS : Can P w K mg base "_law_spoilt" ["_law_deck_here", "_law_thing"] 4 spSpoilt) (CP : Can P w K mg base "is_house" ["thing"] 6 spIsHouse) (CI : Can P w K mg base "_law_is_one" ["_law_thing"] 4 spIsHouse)
    (CW : Can P w K mg base "is_whole" ["thing"] 1 spWhole) (CM : Can P w K mg base "_law_same" ["_law_found", "_law_due"] 2 spSame) :
    (∀ (s : Shared) (u : Value), BindsTo s fd ⟨[u], []⟩ [("_law_script", u)]) ∧ AtTop P w K mg base f fd "_law_script" (spLaw K) := by
  obtain ⟨t1, c1⟩ := cs.rooms
  obtain ⟨t2, c2⟩ := cs.long
  obtain ⟨t3, c3⟩ := cs.wide
  obtain ⟨t4, c4⟩ := cs.narrows
  obtain ⟨t5, c5⟩ := cs.flaps
  obtain ⟨t6, c6⟩ := cs.reach
  obtain ⟨t7, c7⟩ := cs.knots
  obtain ⟨t8, c8⟩ := cs.tail
  obtain ⟨t9, c9⟩ := cs.head
  refine ⟨?_, atTop_of (k := 6) F scLaw ⟨rfl, by decide, by decide⟩ fun cdv s H v Q hr h => ?_⟩
  · obtain ⟨oc, od, kV, doc, pm, an, cdv, ct, osl, rfl, lk, hcd⟩ := F.ex
    exact fun s u => .of_eq rfl
  · obtain ⟨a, ns, hv, hS, hlen, q⟩ := h
    cases hv
    have hu : (callerA.deeper (envOfC "law" (defScope sLaw) s.heap.objs.size f cdv)).units + 70 < cLine := by have := hr.un; omega
    refine ⟨_, PSs.nox (pss_cons (ps_set (i := 1) scLaw.nd rfl (.inl rfl) (pe_can CD (hr.mono (by decide)) (by rfl) (pa_cons (pv 0) pa_nil)))
      (pss_cons (ps_set (i := 2) scLaw.nd rfl (.inl rfl) (pe_op op_cat (pe_can0 CG (hr.mono (by decide)) (by rfl)) (pe_lst (pa_cons pe_non (pa_cons pe_bl (pa_cons pe_int (pa_cons pe_int (pa_cons pe_str (pa_cons (pe_tup pa_nil) (pa_cons (pe_lstN pa_nil) (pa_cons pe_dnewK (pa_cons (pe_tup (pa_cons pe_int pa_nil)) (pa_cons (pe_lstN (pa_cons pe_int (pa_cons (pe_tup pa_nil) pa_nil))) (pa_cons (pe_tup (pa_cons pe_int (pa_cons (pe_lstN pa_nil) pa_nil))) (pa_cons (pe_tup (pa_cons pe_bl (pa_cons (pe_tup pa_nil) pa_nil))) (pa_cons (pe_tup (pa_cons pe_str (pa_cons (pe_tup pa_nil) pa_nil))) (pa_cons (pe_tup (pa_cons pe_int (pa_cons (pe_tup pa_nil) (pa_cons (pe_tup pa_nil) pa_nil)))) pa_nil)))))))))))))))))
      (pss_cons (ps_for PassesOwn.never rfl (pi_range1 (by rfl) B.range_ (pa_cons pe_int pa_nil)) (pg_name (i := 3) scLaw.nd rfl (Or.inl rfl))
      (pss_cons (ps_set (i := 4) scLaw.nd rfl (.inl rfl) (pe_can CH (hr.mono (by decide)) (by rfl) (pa_cons (pv 1) (pa_cons (pe_ix ix_list (pe_lst (pa_cons pe_int (pa_cons pe_int pa_nil))) (pe_can CN (hr.mono (by decide)) (by rfl) (pa_cons (pv 1) (pa_cons pe_int pa_nil))) (fun _ _ => rfl)) (pa_cons (pe_can CN (hr.mono (by decide)) (by rfl) (pa_cons (pv 1) (pa_cons pe_int pa_nil))) (pa_cons pe_int pa_nil))))))
      (pss_cons (ps_set (i := 5) scLaw.nd rfl (.inl rfl) (pe_can CS (hr.mono (by decide)) (by rfl) (pa_cons (pv 1) (pa_cons (pv 4) pa_nil))))
      (pss_cons (ps_set (i := 2) scLaw.nd rfl (.inl rfl) (pe_op op_cat (pv 2) (pe_lst (pa_cons (pv 4) (pa_cons (pv 5) (pa_cons (pe_can CS (hr.mono (by decide)) (by rfl) (pa_cons (pv 1) (pa_cons (pv 4) pa_nil))) (pa_cons (pe_can CS (hr.mono (by decide)) (by rfl) (pa_cons (pv 1) (pa_cons (pv 5) pa_nil))) pa_nil)))))))
      (pss_one (ps_if (pt_not (pt_val (pe_can CP (hr.mono (by decide)) (by rfl) (pa_cons (pv 4) pa_nil)))) (pss_one (ps_ret pe_bl)) pss_nil))))))
      (pss_cons (ps_for PassesOwn.never rfl (pi_list (pv 2)) (pg_name (i := 6) scLaw.nd rfl (Or.inl rfl))
      (pss_cons (ps_set (i := 7) scLaw.nd rfl (.inl rfl) (pe_callB (call_reprA rfl hu) (by rfl) B.repr_ boot_repr (pa_cons (pv 6) pa_nil)))
      (pss_cons (ps_set (i := 8) scLaw.nd rfl (.inl rfl) (pe_can CP (hr.mono (by decide)) (by rfl) (pa_cons (pv 6) pa_nil)))
      (pss_cons (ps_if (PW.pt (pw_or (pt_not (pt_val (pe_callB (call_isD kit_bool) (by rfl) B.isi boot_isinstance (pa_cons (pv 8) (pa_cons (pe_bltn (v := .ty "bool") (by rfl) B.bool_ boot_bool rfl) pa_nil))))) (pw_or (pt_cmpR op_ne (pv 8) (pe_can CI (hr.mono (by decide)) (by rfl) (pa_cons (pv 6) pa_nil)) (nomark _)) (pw_or1 (pt_cmpR op_ne (pe_callB (call_reprA rfl hu) (by rfl) B.repr_ boot_repr (pa_cons (pv 6) pa_nil)) (pv 7) (nomark _)))))) (pss_one (ps_ret pe_bl)) pss_nil)
      (pss_one (ps_if (pt_cmpR op_ne (pe_callB (call_reprA rfl hu) (by rfl) B.repr_ boot_repr (pa_cons (pe_can CW (hr.mono (by decide)) (by rfl) (pa_cons (pv 6) pa_nil)) pa_nil)) (pe_callB (call_reprA rfl hu) (by rfl) B.repr_ boot_repr (pa_cons (pe_and (pe_callB (call_isD kit_int) (by rfl) B.isi boot_isinstance (pa_cons (pv 6) (pa_cons (pe_bltn (v := .ty "int") (by rfl) B.int_ boot_int rfl) pa_nil))) (pe_one (pe_not (pe_callB (call_isD kit_bool) (by rfl) B.isi boot_isinstance (pa_cons (pv 6) (pa_cons (pe_bltn (v := .ty "bool") (by rfl) B.bool_ boot_bool rfl) pa_nil)))))) pa_nil)) (nomark _)) (pss_one (ps_ret pe_bl)) pss_nil))))))
      (pss_cons (ps_if (pt_not (pt_val (pe_can CM (hr.mono (by decide)) (by rfl) (pa_cons (pe_tup (pa_cons (pe_glob (v := .int 16) (by rfl) c1 ⟨_, rfl⟩) (pa_cons (pe_glob (v := .int 1000000000000) (by rfl) c2 ⟨_, rfl⟩) (pa_cons (pe_glob (v := .int 1000000) (by rfl) c3 ⟨_, rfl⟩) (pa_cons (pe_glob (v := .int 12) (by rfl) c4 ⟨_, rfl⟩) (pa_cons (pe_glob (v := .int 6) (by rfl) c5 ⟨_, rfl⟩) pa_nil)))))) (pa_cons (pe_tup (pa_cons pe_int (pa_cons (pe_op op_pow pe_int pe_int) (pa_cons (pe_op op_pow pe_int pe_int) (pa_cons pe_int (pa_cons pe_int pa_nil)))))) pa_nil))))) (pss_one (ps_ret pe_bl)) pss_nil)
      (pss_one (ps_ret (pe_can CM (hr.mono (by decide)) (by rfl) (pa_cons (pe_tup (pa_cons (pe_glob (v := .int 100000000000000) (by rfl) c6 ⟨_, rfl⟩) (pa_cons (pe_glob (v := .int 4) (by rfl) c7 ⟨_, rfl⟩) (pa_cons (pe_glob (v := .int 0) (by rfl) c8 ⟨_, rfl⟩) (pa_cons (pe_glob (v := .int 1) (by rfl) c9 ⟨_, rfl⟩) pa_nil))))) (pa_cons (pe_tup (pa_cons (pe_op op_pow pe_int pe_int) (pa_cons pe_int (pa_cons pe_int (pa_cons pe_int pa_nil))))) pa_nil)))))))))), ?_⟩
    refine ⟨.ref a, rfl, a, ns, rfl, hS, hlen, fun H0 D C R k0 _ _ _ d0 => ?_⟩
    have mD : D ∈ [D, R] := List.mem_cons_self
    have mR : R ∈ [D, R] := List.mem_cons_of_mem _ List.mem_cons_self
    have tr0 : Tr [D, R] H0 := fun z hz => by
      rcases List.mem_cons.mp hz with hz | hz
      · rw [hz]; exact d0.at.1
      · rw [List.mem_singleton.mp hz]; exact d0.at.2.2
    -- the edges and the other kinds
    refine ⟨[D, R], rfl, tr0, fun H1 ep us ds k1 ee nep dts thg lds tr1 => ?_⟩
    refine Mks.go (av := [D, R]) 20 10 100 (mks_cons mk_non (mks_cons (mk_bl _) (mks_cons (mk_i mi_c (by decide)) (mks_cons (mk_i mi_c (by decide)) (mks_cons (mk_str _ (by decide +kernel)) (mks_cons (mk_tup mks_nil (by decide)) (mks_cons (mk_lst mks_nil (by decide)) (mks_cons mk_dct (mks_cons (mk_tup (mks_cons (mk_i mi_c (by decide)) mks_nil) (by decide)) (mks_cons (mk_lst (mks_cons (mk_i mi_c (by decide)) (mks_cons (mk_tup mks_nil (by decide)) mks_nil)) (by decide)) (mks_cons (mk_tup (mks_cons (mk_i mi_c (by decide)) (mks_cons (mk_lst mks_nil (by decide)) mks_nil)) (by decide)) (mks_cons (mk_tup (mks_cons (mk_bl _) (mks_cons (mk_tup mks_nil (by decide)) mks_nil)) (by decide)) (mks_cons (mk_tup (mks_cons (mk_str _ (by decide +kernel)) (mks_cons (mk_tup mks_nil (by decide)) mks_nil)) (by decide)) (mks_cons (mk_tup (mks_cons (mk_i mi_c (by decide)) (mks_cons (mk_tup mks_nil (by decide)) (mks_cons (mk_tup mks_nil (by decide)) mks_nil))) (by decide)) mks_nil)))))))))))))) (by decide) (by decide) (by decide) tr1 (fun H2 us2 ds2 k2 tr2 D2 lf2 dp2 ct2 ln2 => ?_)
    have le1 := dts.len
    refine ⟨by rw [D2.len, sizeLine_eq]; omega, fun p2 np2 => ⟨ep, p2, us, us2, rfl, rfl, st np2 (k2.same ep _ ee), upd_same, by rw [D2.len, sizeLine_eq]; omega, fun sa nsa => ?_⟩⟩
    have kA : Keep [] H1 (upd (upd H2 p2 (.lst us2)) sa (.lst (us ++ us2))) := k2.trans ((Keep.new np2).trans (Keep.new nsa))
    have dA := (d0.keep k1).keep kA
    have d2p := ((d0.keep k1).keep k2).new (o := .lst us2) np2
    have zsa := d2p.ne nsa
    have tA := (tr2.upd (p := p2) (o := .lst us2)).upd (p := sa) (o := .lst (us ++ us2))
    have dtsA := ((((dts.keep (Keep.of k2)).app D2).kn (o := .lst us2) np2)).kn (o := .lst (us ++ us2)) nsa
    have thgA := thg.app (Thg.of lf2 dp2 ct2 (by decide) (by decide))
    have lA : (ds ++ ds2).length ≤ 200 := by rw [List.length_append]; omega
    have eA : (upd (upd H2 p2 (.lst us2)) sa (.lst (us ++ us2))) sa = some (.lst (us ++ us2)) := upd_same
    show (_ : Prop)
    generalize upd (upd H2 p2 (.lst us2)) sa (.lst (us ++ us2)) = GA at *
    generalize us ++ us2 = usA at *
    generalize ds ++ ds2 = dsA at *
    -- four houses
    refine ⟨4, rfl, by decide, by decide, for_range (lo := 0) (n := 4)
      (fun i σ J => ∃ (s3 s4 s5 : Option V) (sa : Addr) (us : List V) (ds : List PyData), σ = [some (.ref a), some (.ref D), some (.ref sa), s3, s4, s5, none, none, none] ∧ Deck J D C R (5000 * i) ∧ Tr [D, R] J ∧ sa ≠ D ∧ sa ≠ R ∧ J sa = some (.lst us) ∧ Dts [D, R] J us ds ∧ Thg ds ∧ ds.length ≤ 200 + 4 * i)
      ⟨none, none, none, sa, usA, dsA, rfl, dA.mono (by simp), tA, zsa.1, zsa.2.2, eA, dtsA, thgA, by omega⟩ (fun i σ G hi p => ?_) (fun σ G p => ?_)⟩
    · obtain ⟨s3, s4, s5, sa, us, ds, rfl, dG, tG, nD, nR, esa, dts, thg, lds⟩ := p
      -- the house
      refine ⟨.ref D, rfl, show 2 ≤ sizeLine by decide, fun l0 nl0 => ?_⟩
      have zl := dG.ne nl0
      refine ⟨.ref D, rfl, D, C, R, _, 2, rfl, by decide, by decide, dG.new nl0, by omega, fun G1 k1 kp1 d1 a1 a2 => ?_⟩
      obtain ⟨most, gm, m1, m2⟩ : ∃ m : Int, atI [V.int 4, V.int 16] k1 = some (.int m) ∧ 1 ≤ m ∧ m ≤ 16 := by
        by_cases h0 : k1 = 0
        · rw [h0]; exact ⟨4, atI_nat (j := 0) rfl, by decide, by decide⟩
        · rw [show k1 = 1 by omega]; exact ⟨16, atI_nat (j := 1) rfl, by decide, by decide⟩
      refine ⟨l0, _, k1, .int most, rfl, rfl, SqL.of (kp1 l0 _ upd_same (notDR zl.1 zl.2.2)), gm, .ref D, rfl, D, C, R, _, 2, rfl, by decide, by decide, d1, by omega, fun G2 far kp2 d2 a3 a4 => ?_⟩
      have tr2 : Tr [D, R] G2 := fun z hz => by
        rcases List.mem_cons.mp hz with hz | hz
        · rw [hz]; exact d2.at.1
        · rw [List.mem_singleton.mp hz]; exact d2.at.2.2
      have esa2 := kp2 sa _ (kp1 sa _ (st (o := .lst [V.int 4, V.int 16]) nl0 esa) (notDR nD nR)) (notDR nD nR)
      have dts2 := (((dts.kn (o := .lst [V.int 4, V.int 16]) nl0).keep kp1).keep kp2)
      refine ⟨D, C, R, _, most, far, 1, [D, R], rfl, m1, m2, by omega, by decide, by decide, d2, by omega, tr2, mD, mR, fun G3 hp n ps kp3 d3 n0 n1 lps okp con sn sf dh tr3 => ?_⟩
      have smh : Sm (10 ^ 39) 5 500 (houseD n (ps.map Pi.dat)) := (house_small n0 n1 lps okp).mono (by decide) (by decide) (by decide)
      have isH := house_is n0 n1 lps okp con sn sf
      have esa3 := kp3 sa _ esa2 (notDR nD nR)
      have dts3 := dts2.keep kp3
      generalize houseD n (ps.map Pi.dat) = hd at *
      -- bent
      refine ⟨.ref D, rfl, .ref hp, rfl, D, C, R, _, [D, R], .ref hp, hd, 10 ^ 39, 5, 500, rfl, dh, smh, by decide, by decide, Nat.le_refl _, by decide, d3, by omega, tr3, mD, mR, fun G4 x4 e4 kp4 d4 dx4 sm4 tr4 => ?_⟩
      have esa4 := kp4 sa _ esa3 (notDR nD nR)
      have dts4 := dts3.keep kp4
      have dh4 := dh.keep kp4
      -- the list
      refine ⟨.ref sa, rfl, .ref hp, rfl, x4, rfl, .ref D, rfl, .ref hp, rfl, D, C, R, _, [D, R], .ref hp, hd, 10 ^ 39, 5, 500, rfl, dh4, smh, by decide, by decide, Nat.le_refl _, by decide, d4, by omega, tr4, mD, mR, fun G5 x5 e5 kp5 d5 dx5 sm5 tr5 => ?_⟩
      have esa5 := kp5 sa _ esa4 (notDR nD nR)
      have dts5 := dts4.keep kp5
      have dh5 := dh4.keep kp5
      have dx45 := dx4.keep kp5
      refine ⟨.ref D, rfl, x4, rfl, D, C, R, _, [D, R], x4, e4, 10 ^ 39 + 16, 7, 1010, rfl, dx45, sm4, by decide, by decide, by decide, by decide, d5, by omega, tr5, mD, mR, fun G6 x6 e6 kp6 d6 dx6 sm6 tr6 => ?_⟩
      have esa6 := kp6 sa _ esa5 (notDR nD nR)
      have dts6 := dts5.keep kp6
      have dh6 := dh5.keep kp6
      have dx46 := dx45.keep kp6
      have dx56 := dx5.keep kp6
      refine ⟨show 4 ≤ sizeLine by decide, fun l3 nl3 => ?_⟩
      refine ⟨sa, l3, us, [.ref hp, x4, x5, x6], rfl, rfl, st nl3 esa6, upd_same, by rw [dts.len, sizeLine_eq]; show ds.length + 4 ≤ _; omega, fun sb nsb => ?_⟩
      have d7 := d6.new (o := .lst [.ref hp, x4, x5, x6]) nl3
      have zsb := d7.ne nsb
      have newd : Dts [D, R] G6 [.ref hp, x4, x5, x6] [hd, e4, e5, e6] := .cons dh6 (.cons dx46 (.cons dx56 (.cons dx6 .nil)))
      have dts8 := (((dts6.app newd).kn (o := .lst [.ref hp, x4, x5, x6]) nl3).kn (o := .lst (us ++ [.ref hp, x4, x5, x6])) nsb)
      have dh8 := (dh6.kn (o := .lst [.ref hp, x4, x5, x6]) nl3).kn (o := .lst (us ++ [.ref hp, x4, x5, x6])) nsb
      have d8 := d7.new (o := .lst (us ++ [.ref hp, x4, x5, x6])) nsb
      have tr8 := (tr6.upd (p := l3) (o := .lst [.ref hp, x4, x5, x6])).upd (p := sb) (o := .lst (us ++ [.ref hp, x4, x5, x6]))
      have es8 : (upd (upd G6 l3 (.lst [.ref hp, x4, x5, x6])) sb (.lst (us ++ [.ref hp, x4, x5, x6]))) sb = some (.lst (us ++ [.ref hp, x4, x5, x6])) := upd_same
      have thgN : Thg [hd, e4, e5, e6] := .cons (smh.mono (by decide) (by decide) (by decide)) (.cons (sm4.mono (by decide) (by decide) (by decide)) (.cons (sm5.mono (by decide) (by decide) (by decide)) (.cons (sm6.mono (by decide) (by decide) (by decide)) .nil)))
      dsimp only [gName]
      generalize upd (upd G6 l3 (.lst [.ref hp, x4, x5, x6])) sb (.lst (us ++ [.ref hp, x4, x5, x6])) = G8 at *
      refine ⟨.ref hp, rfl, .ref hp, hd, [D, R], rfl, dh8, by have := smh.ct; omega, fun G9 k9 => ⟨_, rfl, ?_⟩⟩
      rw [isH]
      refine iteF ?_
      refine ⟨_, _, _, sb, us ++ [.ref hp, x4, x5, x6], ds ++ [hd, e4, e5, e6], rfl, (d8.keep k9).mono (by omega), ?_, zsb.1, zsb.2.2, k9.same sb _ es8, dts8.keep (Keep.of k9), thg.app thgN, ?_⟩
      · intro z hz
        obtain ⟨o, e⟩ := tr8 z hz
        exact ⟨o, k9.same z o e⟩
      · rw [List.length_append]
        show ds.length + 4 ≤ _
        omega
    · obtain ⟨s3, s4, s5, sa, us, ds, rfl, dG, tG, nD, nR, esa, dts, thg, lds⟩ := p
      refine ⟨.ref sa, rfl, sa, rfl, ⟨_, SqL.of esa⟩, for_list (K := K) (a := sa) (xs := us)
        (fun k σ L => ∃ (s6 s7 s8 : Option V), σ = [some (.ref a), some (.ref D), some (.ref sa), s3, s4, s5, s6, s7, s8] ∧ Keep [] G L)
        ⟨_, _, _, rfl, Keep.refl _ _⟩ (fun k σ L _ p => ?_) (fun k x σ L hx p => ?_) (fun σ L p => ?_)⟩
      · obtain ⟨_, _, _, _, kL⟩ := p
        exact kL.same.seq (SqL.of esa)
      · obtain ⟨s6, s7, s8, rfl, kL⟩ := p
        obtain ⟨d, hd, dx⟩ := (dts.keep (Keep.of kL)).getv k hx
        have sd := thg d (List.mem_of_getElem? hd)
        obtain ⟨w1, w2, w3⟩ := one_shown sd (by decide) (by decide) (by decide)
        have ctd : cnt d ≤ 100000 := by have := sd.ct; omega
        refine ⟨x, rfl, x, d, [D, R], rfl, dx, w1, w2, w3, ?_⟩
        refine ⟨x, rfl, x, d, [D, R], rfl, dx, ctd, fun L1 k1 => ?_⟩
        have dx1 := dx.keep (Keep.of k1)
        refine ⟨_, rfl, _, .bool _, [], rfl, .bl _, _, rfl, ?_⟩
        refine iteF ?_
        refine ⟨_, rfl, x, rfl, x, d, [D, R], rfl, dx1, ctd, fun L2 k2 => ⟨rfl, _, rfl, ?_⟩⟩
        have dx2 := dx1.keep (Keep.of k2)
        refine iteNS rfl ?_
        refine ⟨x, rfl, x, d, [D, R], rfl, dx2, w1, w2, w3, _, rfl, rfl, _, rfl, ?_⟩
        refine iteNS rfl ?_
        obtain ⟨b1, b2, b3⟩ := bool_shown (whole d)
        refine ⟨x, rfl, x, d, [D, R], rfl, dx2, .bl (whole d), .bool (whole d), [], rfl, .bl _, b1, b2, b3, ?_⟩
        refine ⟨x, rfl, x, d, [D, R], rfl, dx2, _, rfl, ite2 (fun e => ?_) (fun e => ?_)⟩
        · have z : (!aBool d) = whole d := by cases d <;> first | rfl | cases e
          refine ⟨x, rfl, x, d, [D, R], rfl, dx2, _, rfl, ?_⟩
          rw [z]
          refine ⟨.bl (whole d), .bool (whole d), [], rfl, .bl _, b1, b2, b3, rfl, _, rfl, ?_⟩
          refine iteNS rfl ?_
          exact ⟨_, _, _, rfl, kL.trans (k1.trans k2)⟩
        · have z : false = whole d := by cases d <;> first | rfl | exact absurd rfl e
          rw [z]
          refine ⟨.bl (whole d), .bool (whole d), [], rfl, .bl _, b1, b2, b3, rfl, _, rfl, ?_⟩
          refine iteNS rfl ?_
          exact ⟨_, _, _, rfl, kL.trans (k1.trans k2)⟩
      · obtain ⟨s6, s7, s8, rfl, kL⟩ := p
        have p12 : (10 : Int) ^ ((12 : Int).toNat) = 1000000000000 := by decide
        have p6 : (10 : Int) ^ ((6 : Int).toNat) = 1000000 := by decide
        have p14 : (10 : Int) ^ ((14 : Int).toNat) = 100000000000000 := by decide
        refine ⟨show 5 ≤ sizeLine by decide, fun b1 n1 => ⟨10, 12, rfl, rfl, ⟨by decide, by decide, by decide⟩, 10, 6, rfl, rfl, ⟨by decide, by decide, by decide⟩, show 5 ≤ sizeLine by decide, fun b2 n2 => ?_⟩⟩
        rw [p12, p6] at *
        refine ⟨b1, b2, [16, 1000000000000, 1000000, 12, 6], rfl, st n2 upd_same, upd_same, by decide, fun L1 k1 => ⟨_, rfl, ?_⟩⟩
        refine iteF ?_
        refine ⟨show 4 ≤ sizeLine by decide, fun b3 n3 => ⟨10, 14, rfl, rfl, ⟨by decide, by decide, by decide⟩, show 4 ≤ sizeLine by decide, fun b4 n4 => ?_⟩⟩
        rw [p14] at *
        exact ⟨b3, b4, [100000000000000, 4, 0, 1], rfl, st n4 upd_same, upd_same, by decide, fun L2 k2 => q L2⟩
end
end Rw

namespace Rw
open PySem PySem.Spec PyProof.Rows L2
theorem has_mk {K : PySem.W.Frag} {h : Heap} {mg : Str → Option Value} {x : Str} {st : Stmt} {f : Addr} (X : K.In h) (G : h.Ns mainGlobals mg) {od an : Option Addr} {sl : Array (Option Value)} {oc kV dc pm cd ct : Value}
    (a : PySem.W.nsIn K mainGlobals x = some (some (.ref f))) (l : K.lookup f = some ⟨oc, od, .func (PySem.W.fnOf x x (defArgs st) (defBody st) (defScope st) .none kV dc pm an cd ct), sl⟩) (c : PySem.W.codeIn K cd x = true) (k : PySem.W.keepIn K (.ref f) = true) : Has K mg x st :=
  ⟨f, _, fun_mk (st := st) l c k, PySem.W.mg_of X G a⟩
theorem cst_mk {K : PySem.W.Frag} {h : Heap} {mg : Str → Option Value} {x : Str} {i : Int} {t : Tok} (X : K.In h) (G : h.Ns mainGlobals mg) (a : PySem.W.nsIn K mainGlobals x = some (some (.int i t))) : ∃ t, mg x = some (.int i t) := ⟨t, PySem.W.mg_of X G a⟩
theorem end_all {P : Program} {w : World} {K : PySem.W.Frag} {mg : Str → Option Value} {fa : Addr} (B : Blt mg) (ma : mg "all" = none) (ms : mg "sum" = none) (cs : Cst mg) (hfa : mg "law" = some (.ref fa)) (hL : Has K mg "law" sLaw)
    (h1 : Has K mg "is_whole" sWhole)
    (h2 : Has K mg "is_within" sWithin)
    (h3 : Has K mg "is_tuple_of" sTupOf)
    (h4 : Has K mg "are_rising_pairs" sRising)
    (h5 : Has K mg "is_house" sHouseP)
    (h6 : Has K mg "is_pipe" sIsPipe)
    (h7 : Has K mg "are_narrows" sNarrows)
    (h8 : Has K mg "are_flaps" sFlaps)
    (h9 : Has K mg "is_flap_way" sFlapWay)
    (h10 : Has K mg "joins_all" sJoins)
    (h11 : Has K mg "holds_few" sFew)
    (h12 : Has K mg "_law_deck" sDeck)
    (h13 : Has K mg "_law_next" sNext)
    (h14 : Has K mg "_law_one" sOne)
    (h15 : Has K mg "_law_edge" sEdge)
    (h16 : Has K mg "_law_same" sSame)
    (h17 : Has K mg "_law_spots" sSpots)
    (h18 : Has K mg "_law_length" sLength)
    (h19 : Has K mg "_law_pipe" sPipe)
    (h20 : Has K mg "_law_house" sHouse)
    (h21 : Has K mg "_law_odd" sOdd)
    (h22 : Has K mg "_law_otherwise" sOther)
    (h23 : Has K mg "_law_spoilt" sSpoilt)
    (h24 : Has K mg "_law_is_from" sFrom)
    (h25 : Has K mg "_law_are_pairs" sPairs)
    (h26 : Has K mg "_law_is_pipe" sLPipe)
    (h27 : Has K mg "_law_all_joined" sJoined)
    (h28 : Has K mg "_law_is_one" sLOne)
    (h29 : Has K mg "_law_edges" sEdges)
    : ∃ fd : FuncData, (∀ (s : Shared) (u : Value), BindsTo s fd ⟨[u], []⟩ [("_law_script", u)]) ∧ ∀ base : Heap, K.In base → base.Ns mainGlobals mg → AtTop P w K mg base fa fd "_law_script" (spLaw K) := by
  obtain ⟨f, fd, F, g⟩ := hL
  have e := hfa.symm.trans g
  cases e
  have all : ∀ base : Heap, (∀ (s : Shared) (u : Value), BindsTo s fd ⟨[u], []⟩ [("_law_script", u)]) ∧ AtTop P w K mg base fa fd "_law_script" (spLaw K) := fun base => by
    have cW : Can P w K mg base _ _ _ _ := ok_whole h1 B
    have cI := ok_within h2 cW
    have cT : Can P w K mg base _ _ _ _ := ok_tupOf h3 B
    have cR := ok_rising h4 B cT cI
    have cFw := ok_flapWay h9 cW
    have cNa := ok_narr h7 B ma cs cR cI
    have cFl := ok_flps h8 B ma cR cFw
    have cPp := ok_isPipe h6 cs cT cI cNa cFl
    have cJ : Can P w K mg base _ _ _ _ := ok_joins h10 B
    have cFe : Can P w K mg base _ _ _ _ := ok_few h11 B ms cs
    have cHo := ok_isHouse h5 cs cT cI cPp cJ cFe
    have cD : Can P w K mg base _ _ _ _ := ok_deck h12 B
    have cN : Can P w K mg base _ _ _ _ := ok_next h13 B
    have cO := ok_one h14 B cN
    have cE := ok_edge h15 B cN cO
    have cS0 : Can P w K mg base _ _ _ _ := ok_same0 h16 B
    have cSa := ok_same h16 B cS0
    have cS := ok_spots h17 B cE
    have cL := ok_length h18 cN cO
    have cPi := ok_pipe h19 B cN cE cS cL
    have cH := ok_house h20 B cN cPi
    have cOd := ok_odd h21 cN
    have cOt := ok_other h22 B cN cOd
    have cSp := ok_spoilt h23 B cN cOt
    have cF : Can P w K mg base _ _ _ _ := ok_from h24 B
    have cPa := ok_pairs h25 B cF
    have cLp := ok_lpipe h26 B cF cPa
    have cLj : Can P w K mg base _ _ _ _ := ok_joined h27 B
    have cLo := ok_lone h28 B ms cF cLp cLj
    have cEd : Can P w K mg base _ _ _ _ := ok_edges h29 B
    exact ok_law F B cs cD cN cH cEd cSp cHo cLo cW cSa
  exact ⟨fd, (all Inhabited.default).1, fun base _ _ => (all base).2⟩
end Rw
open PySem PySem.W PyProof.Rows
set_option maxHeartbeats 0 in
theorem PySem.Challenge.cw_ropewarren_k01_houses_taken_or_not_holds : PySem.Challenge.rw_ropewarren_k01_houses_taken_or_not.Holds := by
  w_on; o_law; k_head; (case hw => w_witness2)
  k_fill
  refine Rw.walk_top (l := PySem.Challenge.rw_ropewarren_k01_houses_taken_or_not) (n := 63) (x := "_law_script") (sp := fun w => Rw.spLaw _) rfl (by decide) rfl (fun w h Y => PySem.W.kIn_of Y) ?F (fun _ _ a ns hl _ hS => ⟨a, ns, rfl, hS, hl, fun _ => rfl⟩)
  case F =>
    intro w mg fa h KX G hmg0
    have hmg : mg "law" = some (.ref fa) := hmg0
    clear hmg0
    refine' Rw.end_all (mg := mg) ?B ?ma ?ms ?cs hmg ?hL ?h1 ?h2 ?h3 ?h4 ?h5 ?h6 ?h7 ?h8 ?h9 ?h10 ?h11 ?h12 ?h13 ?h14 ?h15 ?h16 ?h17 ?h18 ?h19 ?h20 ?h21 ?h22 ?h23 ?h24 ?h25 ?h26 ?h27 ?h28 ?h29
    case B =>
      refine' ⟨PySem.W.mg_none_of KX G ?b1, PySem.W.mg_none_of KX G ?b2, PySem.W.mg_none_of KX G ?b3, PySem.W.mg_none_of KX G ?b4, PySem.W.mg_none_of KX G ?b5, PySem.W.mg_none_of KX G ?b6, PySem.W.mg_none_of KX G ?b7, PySem.W.mg_none_of KX G ?b8, PySem.W.mg_none_of KX G ?b9, PySem.W.mg_none_of KX G ?b10, PySem.W.mg_none_of KX G ?b11, PySem.W.mg_none_of KX G ?b12, PySem.W.mg_none_of KX G ?b13, PySem.W.mg_none_of KX G ?b14⟩
      (case b1 => k_is)
      (case b2 => k_is)
      (case b3 => k_is)
      (case b4 => k_is)
      (case b5 => k_is)
      (case b6 => k_is)
      (case b7 => k_is)
      (case b8 => k_is)
      (case b9 => k_is)
      (case b10 => k_is)
      (case b11 => k_is)
      (case b12 => k_is)
      (case b13 => k_is)
      (case b14 => k_is)
    case ma =>
      refine' PySem.W.mg_none_of KX G ?a
      (case a => k_is)
    case ms =>
      refine' PySem.W.mg_none_of KX G ?a
      (case a => k_is)
    case cs =>
      refine' ⟨Rw.cst_mk KX G ?c1, Rw.cst_mk KX G ?c2, Rw.cst_mk KX G ?c3, Rw.cst_mk KX G ?c4, Rw.cst_mk KX G ?c5, Rw.cst_mk KX G ?c6, Rw.cst_mk KX G ?c7, Rw.cst_mk KX G ?c8, Rw.cst_mk KX G ?c9⟩
      (case c1 => k_is)
      (case c2 => k_is)
      (case c3 => k_is)
      (case c4 => k_is)
      (case c5 => k_is)
      (case c6 => k_is)
      (case c7 => k_is)
      (case c8 => k_is)
      (case c9 => k_is)
    case hL =>
      refine' Rw.has_mk KX G ?a ?l ?c ?k
      (case a => k_is); (case l => k_is); (case c => k_is); (case k => k_is)
    case h1 =>
      refine' Rw.has_mk KX G ?a ?l ?c ?k
      (case a => k_is); (case l => k_is); (case c => k_is); (case k => k_is)
    case h2 =>
      refine' Rw.has_mk KX G ?a ?l ?c ?k
      (case a => k_is); (case l => k_is); (case c => k_is); (case k => k_is)
    case h3 =>
      refine' Rw.has_mk KX G ?a ?l ?c ?k
      (case a => k_is); (case l => k_is); (case c => k_is); (case k => k_is)
    case h4 =>
      refine' Rw.has_mk KX G ?a ?l ?c ?k
      (case a => k_is); (case l => k_is); (case c => k_is); (case k => k_is)
    case h5 =>
      refine' Rw.has_mk KX G ?a ?l ?c ?k
      (case a => k_is); (case l => k_is); (case c => k_is); (case k => k_is)
    case h6 =>
      refine' Rw.has_mk KX G ?a ?l ?c ?k
      (case a => k_is); (case l => k_is); (case c => k_is); (case k => k_is)
    case h7 =>
      refine' Rw.has_mk KX G ?a ?l ?c ?k
      (case a => k_is); (case l => k_is); (case c => k_is); (case k => k_is)
    case h8 =>
      refine' Rw.has_mk KX G ?a ?l ?c ?k
      (case a => k_is); (case l => k_is); (case c => k_is); (case k => k_is)
    case h9 =>
      refine' Rw.has_mk KX G ?a ?l ?c ?k
      (case a => k_is); (case l => k_is); (case c => k_is); (case k => k_is)
    case h10 =>
      refine' Rw.has_mk KX G ?a ?l ?c ?k
      (case a => k_is); (case l => k_is); (case c => k_is); (case k => k_is)
    case h11 =>
      refine' Rw.has_mk KX G ?a ?l ?c ?k
      (case a => k_is); (case l => k_is); (case c => k_is); (case k => k_is)
    case h12 =>
      refine' Rw.has_mk KX G ?a ?l ?c ?k
      (case a => k_is); (case l => k_is); (case c => k_is); (case k => k_is)
    case h13 =>
      refine' Rw.has_mk KX G ?a ?l ?c ?k
      (case a => k_is); (case l => k_is); (case c => k_is); (case k => k_is)
    case h14 =>
      refine' Rw.has_mk KX G ?a ?l ?c ?k
      (case a => k_is); (case l => k_is); (case c => k_is); (case k => k_is)
    case h15 =>
      refine' Rw.has_mk KX G ?a ?l ?c ?k
      (case a => k_is); (case l => k_is); (case c => k_is); (case k => k_is)
    case h16 =>
      refine' Rw.has_mk KX G ?a ?l ?c ?k
      (case a => k_is); (case l => k_is); (case c => k_is); (case k => k_is)
    case h17 =>
      refine' Rw.has_mk KX G ?a ?l ?c ?k
      (case a => k_is); (case l => k_is); (case c => k_is); (case k => k_is)
    case h18 =>
      refine' Rw.has_mk KX G ?a ?l ?c ?k
      (case a => k_is); (case l => k_is); (case c => k_is); (case k => k_is)
    case h19 =>
      refine' Rw.has_mk KX G ?a ?l ?c ?k
      (case a => k_is); (case l => k_is); (case c => k_is); (case k => k_is)
    case h20 =>
      refine' Rw.has_mk KX G ?a ?l ?c ?k
      (case a => k_is); (case l => k_is); (case c => k_is); (case k => k_is)
    case h21 =>
      refine' Rw.has_mk KX G ?a ?l ?c ?k
      (case a => k_is); (case l => k_is); (case c => k_is); (case k => k_is)
    case h22 =>
      refine' Rw.has_mk KX G ?a ?l ?c ?k
      (case a => k_is); (case l => k_is); (case c => k_is); (case k => k_is)
    case h23 =>
      refine' Rw.has_mk KX G ?a ?l ?c ?k
      (case a => k_is); (case l => k_is); (case c => k_is); (case k => k_is)
    case h24 =>
      refine' Rw.has_mk KX G ?a ?l ?c ?k
      (case a => k_is); (case l => k_is); (case c => k_is); (case k => k_is)
    case h25 =>
      refine' Rw.has_mk KX G ?a ?l ?c ?k
      (case a => k_is); (case l => k_is); (case c => k_is); (case k => k_is)
    case h26 =>
      refine' Rw.has_mk KX G ?a ?l ?c ?k
      (case a => k_is); (case l => k_is); (case c => k_is); (case k => k_is)
    case h27 =>
      refine' Rw.has_mk KX G ?a ?l ?c ?k
      (case a => k_is); (case l => k_is); (case c => k_is); (case k => k_is)
    case h28 =>
      refine' Rw.has_mk KX G ?a ?l ?c ?k
      (case a => k_is); (case l => k_is); (case c => k_is); (case k => k_is)
    case h29 =>
      refine' Rw.has_mk KX G ?a ?l ?c ?k
      (case a => k_is); (case l => k_is); (case c => k_is); (case k => k_is)
