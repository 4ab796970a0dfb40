import PyProof.Rows.All
import Wide.All
import OpenK.AllK
import Wide.FinOn
import PyProof.ReprRoads
import HandS.ForMost
import HandS.Flow
import HandS.Wide
import HandS.IsInst
import HandS.Strs
import HandS.SetFor
import HandS.TupAny
import HandS.Rev
import HandS.NoneIn
import HandS.Style
import HandS.SortInts
import HandS.More
import KE.DataMinMax
import KE.GoesMore
import KE.DatumOrd
import KE.KDictDisplayH
import KE.SortData
import HandS.Conv
import HandS.Walk
import HandS.DictSub
import PySem.Challenge.RW_ropewarren_k06_whole_far_distances
set_option Elab.async false
set_option linter.all false
set_option maxRecDepth 100000
set_option maxHeartbeats 4000000
namespace Rw
open PySem PySem.Spec PyProof.Rows L2
/-! heaps of which all but a few addresses stay -/
def Keep (av : List Addr) (H H' : Hp) : Prop := ∀ b o, H b = some o → b ∉ av → H' b = some o
theorem Keep.refl (av : List Addr) (H : Hp) : Keep av H H := fun _ _ e _ => e
theorem Keep.trans {av : List Addr} {H H1 H2 : Hp} (x : Keep av H H1) (y : Keep av H1 H2) : Keep av H H2 := fun b o e n => y b o (x b o e n) n
theorem Keep.new {av : List Addr} {H : Hp} {p : Addr} {o : HO} (n : H p = none) : Keep av H (upd H p o) := fun b z e _ => by
  rw [upd_ne (ne_of_none e n)]; exact e
theorem Keep.put {av : List Addr} {H : Hp} {p : Addr} {o : HO} (n : p ∈ av) : Keep av H (upd H p o) := fun b z e nb => by
  rw [upd_ne (show b ≠ p from fun q => nb (by rw [q]; exact n))]; exact e
theorem Keep.mono {av av' : List Addr} {H H' : Hp} (x : Keep av H H') (s : ∀ a ∈ av, a ∈ av') : Keep av' H H' := fun b o e n => x b o e fun q => n (s b q)
/-! a fresh address may be left out of what is left out -/
theorem Keep.drop {av : List Addr} {H H' : Hp} {p : Addr} (n : H p = none) (x : Keep (p :: av) H H') : Keep av H H' := fun b o e nb => x b o e fun q => by
  rcases List.mem_cons.mp q with q | q
  · exact ne_of_none e n q
  · exact nb q
/-! data: what stands at a value, without the addresses av -/
mutual
inductive Dt (av : List Addr) (H : Hp) : V → PyData → Prop
  | non : Dt av H .non .none
  | bl (b : Bool) : Dt av H (.bl b) (.bool b)
  | int (i : Int) : Dt av H (.int i) (.int i)
  | str (x : Str) : Dt av H (.str x) (.str x)
  | lst {a : Addr} {xs : List V} {ds : List PyData} : a ∉ av → H a = some (.lst xs) → Dts av H xs ds → Dt av H (.ref a) (.list ds)
  | tup {a : Addr} {xs : List V} {ds : List PyData} : a ∉ av → H a = some (.tup xs) → Dts av H xs ds → Dt av H (.ref a) (.tuple ds)
  | dct {a : Addr} : a ∉ av → H a = some (.dK []) → Dt av H (.ref a) (.dict [])
inductive Dts (av : List Addr) (H : Hp) : List V → List PyData → Prop
  | nil : Dts av H [] []
  | cons {v : V} {vs : List V} {d : PyData} {ds : List PyData} : Dt av H v d → Dts av H vs ds → Dts av H (v :: vs) (d :: ds)
end
mutual
theorem Dt.map {av av' : List Addr} {H H' : Hp} (f : ∀ b o, H b = some o → b ∉ av → H' b = some o ∧ b ∉ av') : ∀ (d : PyData) (v : V), Dt av H v d → Dt av' H' v d
  | _, _, .non => .non
  | _, _, .bl b => .bl b
  | _, _, .int i => .int i
  | _, _, .str x => .str x
  | .list ds, _, .lst n e s => .lst (f _ _ e n).2 (f _ _ e n).1 (Dts.map f ds _ s)
  | .tuple ds, _, .tup n e s => .tup (f _ _ e n).2 (f _ _ e n).1 (Dts.map f ds _ s)
  | _, _, .dct n e => .dct (f _ _ e n).2 (f _ _ e n).1
theorem Dts.map {av av' : List Addr} {H H' : Hp} (f : ∀ b o, H b = some o → b ∉ av → H' b = some o ∧ b ∉ av') : ∀ (ds : List PyData) (vs : List V), Dts av H vs ds → Dts av' H' vs ds
  | _, _, .nil => .nil
  | d :: ds, _, .cons h t => .cons (Dt.map f d _ h) (Dts.map f ds _ t)
end
theorem Dt.keep {av : List Addr} {H H' : Hp} {v : V} {d : PyData} (x : Dt av H v d) (k : Keep av H H') : Dt av H' v d := Dt.map (fun b o e n => ⟨k b o e n, n⟩) d v x
theorem Dts.keep {av : List Addr} {H H' : Hp} {v : List V} {d : List PyData} (x : Dts av H v d) (k : Keep av H H') : Dts av H' v d := Dts.map (fun b o e n => ⟨k b o e n, n⟩) d v x
theorem Dt.more {av : List Addr} {H : Hp} {v : V} {d : PyData} {p : Addr} (x : Dt av H v d) (n : H p = none) : Dt (p :: av) H v d :=
  Dt.map (fun b o e nb => ⟨e, fun q => (List.mem_cons.mp q).elim (ne_of_none e n) nb⟩) d v x
theorem Dts.more {av : List Addr} {H : Hp} {v : List V} {d : List PyData} {p : Addr} (x : Dts av H v d) (n : H p = none) : Dts (p :: av) H v d :=
  Dts.map (fun b o e nb => ⟨e, fun q => (List.mem_cons.mp q).elim (ne_of_none e n) nb⟩) d v x
theorem Dt.less {av av' : List Addr} {H : Hp} {v : V} {d : PyData} (x : Dt av H v d) (s : ∀ a ∈ av', a ∈ av) : Dt av' H v d :=
  Dt.map (fun b o e nb => ⟨e, fun q => nb (s b q)⟩) d v x
theorem Dts.less {av av' : List Addr} {H : Hp} {v : List V} {d : List PyData} (x : Dts av H v d) (s : ∀ a ∈ av', a ∈ av) : Dts av' H v d :=
  Dts.map (fun b o e nb => ⟨e, fun q => nb (s b q)⟩) d v x
theorem Dts.len {av : List Addr} {H : Hp} : ∀ {vs : List V} {ds : List PyData}, Dts av H vs ds → vs.length = ds.length
  | _, _, .nil => rfl
  | _, _, .cons _ t => by rw [List.length_cons, List.length_cons, t.len]
theorem Dts.get {av : List Addr} {H : Hp} : ∀ {vs : List V} {ds : List PyData} (i : Nat) {d : PyData}, Dts av H vs ds → ds[i]? = some d → ∃ v, vs[i]? = some v ∧ Dt av H v d
  | _, _, _, _, .nil, e => by simp at e
  | _, _, 0, _, .cons h _, e => by simp at e; subst e; exact ⟨_, rfl, h⟩
  | _, _, i + 1, d, .cons _ t, e => by
    obtain ⟨u, h1, h2⟩ := Dts.get (i := i) (d := d) t (by simpa using e)
    exact ⟨u, by simpa using h1, h2⟩
theorem Dts.getv {av : List Addr} {H : Hp} : ∀ {vs : List V} {ds : List PyData} (i : Nat) {v : V}, Dts av H vs ds → vs[i]? = some v → ∃ d, ds[i]? = some d ∧ Dt av H v d
  | _, _, _, _, .nil, e => by simp at e
  | _, _, 0, _, .cons h _, e => by simp at e; subst e; exact ⟨_, rfl, h⟩
  | _, _, i + 1, d, .cons _ t, e => by
    obtain ⟨u, h1, h2⟩ := Dts.getv (i := i) (v := d) t (by simpa using e)
    exact ⟨u, by simpa using h1, h2⟩
theorem Dts.app {av : List Addr} {H : Hp} : ∀ {vs us : List V} {ds es : List PyData}, Dts av H vs ds → Dts av H us es → Dts av H (vs ++ us) (ds ++ es)
  | _, _, _, _, .nil, y => y
  | _, _, _, _, .cons h t, y => .cons h (Dts.app t y)
theorem Dts.mem {av : List Addr} {H : Hp} : ∀ {vs : List V} {ds : List PyData} {v : V}, Dts av H vs ds → v ∈ vs → ∃ d ∈ ds, Dt av H v d
  | _, _, _, .nil, e => by simp at e
  | _, _, v, .cons (d := d) h t, e => by
    rcases List.mem_cons.mp e with e | e
    · subst e; exact ⟨d, List.mem_cons_self, h⟩
    · obtain ⟨d', m, x⟩ := Dts.mem t e
      exact ⟨d', List.mem_cons_of_mem _ m, x⟩
theorem Dts.take {av : List Addr} {H : Hp} : ∀ {vs : List V} {ds : List PyData} (n : Nat), Dts av H vs ds → Dts av H (vs.take n) (ds.take n)
  | _, _, 0, _ => .nil
  | _, _, _ + 1, .nil => .nil
  | _, _, n + 1, .cons r t => .cons r (Dts.take n t)
theorem Dts.drop {av : List Addr} {H : Hp} : ∀ {vs : List V} {ds : List PyData} (n : Nat), Dts av H vs ds → Dts av H (vs.drop n) (ds.drop n)
  | _, _, 0, r => r
  | _, _, _ + 1, .nil => .nil
  | _, _, n + 1, .cons _ t => Dts.drop n t
theorem Dts.rev {av : List Addr} {H : Hp} : ∀ {vs : List V} {ds : List PyData}, Dts av H vs ds → Dts av H vs.reverse ds.reverse
  | _, _, .nil => .nil
  | _, _, .cons r t => by rw [List.reverse_cons, List.reverse_cons]; exact Dts.app t.rev (.cons r .nil)
theorem Dts.ints {av : List Addr} {H : Hp} : ∀ ns : List Int, Dts av H (ns.map V.int) (ns.map PyData.int)
  | [] => .nil
  | n :: ns => .cons (.int n) (Dts.ints ns)
end Rw

namespace Rw
open PySem PySem.Spec PyProof.Rows L2
/-! ### set(xs) of a list of hin, its order left open -/
abbrev set0 (w : World) : Obj := { cls := .type "set", dict := none, data := .set #[] 0 (.fresh 0 0 (!w.params.followText "set-order")) }
section
variable {P : Program} {w : World} {A : Around} {E : Value → Shared → Prop} {s : Shared}
theorem set_of_list {l : Addr} {its : Array Value} (ns : List Int) {Q : Value → Shared → Prop} (calm : A.handled = none) (hl : s.heap.IsList l its) (hin : IntsAre its.toList ns) (few : ns.length + 1 < scanBound)
    (h : ∀ (h' : Heap) (tk c : Nat), SetR w h' s.heap.objs.size (fun j => decide (j ∈ ns)) c → c ≤ ns.length → (∀ b o, s.heap.get? b = some o → h'.get? b = some o) → Q (.ref s.heap.objs.size) { s with heap := h', toks := tk }) :
    wpAny (model P w) A (call (.type "set") [.ref l]) Q E s := by
  have isz : its.size = ns.length := (Array.length_toList (xs := its)).symm.trans (IntsAre.length hin)
  obtain ⟨c, tl, m1⟩ := F.called_set.mro
  have m2 := F.called_set.made
  have m3 := F.called_set.sub
  refine wpAny_call (codeAny_of_tree (show wpAny _ _ (callAny (.type "set") _) _ _ _ from ?_))
  refine wpAny_pure ⟨Code.quiet_builtin _ (by decide +kernel), codeAny_builtin (F.entry_type_call) ?_⟩
  rw [Around.under_plain (weight_type_call_type "set" [Value.ref l] []) rfl]
  have m4 := F.called_set.notType
  have m5 := F.called_set.canCreate
  have m6 := F.typeCall_set_1 (Value.ref l)
  repeat any_goals (first | assumption | wp_step)
  refine codeAny_mono (code_set_led1 (Value.ref l) (E := E) (Q₁ := fun ob s1 => ob = .ref s.heap.objs.size ∧ s1 = { s with heap := s.heap.push (set0 w) }) ⟨rfl, rfl⟩) fun r s1 hr => ?_
  cases r with
  | error e => exact hr
  | ok fl =>
    cases fl with
    | ret ob =>
      obtain ⟨rfl, rfl⟩ := hr
      have at0 : (s.heap.push (set0 w)).get? s.heap.objs.size = some (set0 w) := Heap.get?_push_size _ rfl
      have ty : Shared.TypeIs { s with heap := s.heap.push (set0 w) } (.ref s.heap.objs.size) "set" := ⟨_, at0, rfl⟩
      have m7 := F.called_set.init.lookup
      have m8 := F.called_set.init.bind (Value.ref s.heap.objs.size)
      repeat any_goals (first | assumption | wp_step)
      refine codeAny_mono (codeAny_call_builtin (R := wants (fun r s2 => r = .none ∧ ∃ h' tk c, s2 = { s with heap := h', toks := tk } ∧ SetR w h' s.heap.objs.size (fun j => decide (j ∈ ns)) c ∧ c ≤ ns.length ∧ (∀ b o, s.heap.get? b = some o → h'.get? b = some o)) E)
        F.called_set.init.plain F.entry_set_init (check_set_init_1 ty ?_)) fun r2 s2 hr2 => ?_
      · obtain ⟨⟨oc, od, odata, osl⟩, e0, e1, nl, e2⟩ := hl
        simp only at e1 e2
        subst e1; subst e2
        have e3 : (s.heap.push (set0 w)).get? l = some { cls := .type "list", dict := od, data := .seq its nl, slots := osl } := Heap.get?_push_of_some _ e0
        have n1 := F.sub_list_set
        have n2 := F.sub_list_frozenset
        have n3 : (Value.type "list" == Value.type "dict") = false := by decide
        have hl1 : (s.heap.push (set0 w)).IsList l its := ⟨_, e3, rfl, nl, rfl⟩
        unfold Builtin.«set.__init__» noKeywords Builtin.Frozenset.updateFrom
        generalize gi : pyIter = PI
        wp_walk
        subst gi
        refine wpAny_pyIter_list hl1 (wpAny_bind (wpAny_runValue ?_))
        have lt0 : l < s.heap.objs.size := Heap.lt_size e0
        have calm3 : A.in1.in1.in1.handled = none := by simp [calm]
        have ne1 : l ≠ (s.heap.push (set0 w)).objs.size := by
          rw [Heap.size_push]; exact Nat.ne_of_lt (Nat.lt_succ_of_lt lt0)
        have ne2 : s.heap.objs.size ∉ [(s.heap.push (set0 w)).objs.size, l] := by
          rw [Heap.size_push]
          intro q
          simp only [List.mem_cons, List.not_mem_nil, or_false] at q
          exact q.elim (Nat.ne_of_lt (Nat.lt_succ_self _)) (Nat.ne_of_gt lt0)
        have val : ∀ (i : Nat) (v : Value), its[i]? = some v → ∃ k t, ns[i]? = some k ∧ v = .int k t := fun i v hv => by
          have hi : i < ns.length := by rw [← isz]; exact (Array.getElem?_eq_some_iff.mp hv).1
          obtain ⟨t, e⟩ := PyProof.Rows.IntsAre.int_at hin i v (by rw [Array.getElem?_toList]; exact hv)
          refine ⟨ns[i], t, List.getElem?_eq_getElem hi, e.trans ?_⟩
          rw [List.getD_eq_getElem?_getD, List.getElem?_eq_getElem hi]; rfl
        refine set_update_ints ((Walks.list calm3 _ l ne1 its).toS) s.heap.objs.size ne2 ns isz few val (its.size - 0) 0 _ (by omega) (Nat.zero_le _) ⟨⟨_, Heap.get?_push_size _ rfl, rfl, rfl⟩, (hl1.push _)⟩ ?start ?fin
        case start => exact ⟨0, Nat.le_refl 0, setR_new_at (Heap.get?_push_of_some _ at0)⟩
        case fin =>
          intro s3 c3 mv le3 R3
          obtain ⟨h3, g3, d3, t3, o3⟩ := s3
          obtain rfl : g3 = s.gens := mv.gens
          obtain rfl : d3 = s.drawn := mv.drawn
          obtain rfl : o3 = s.os := mv.os
          show wpAny _ _ _ _ _ _
          refine wpAny_pure (show wpAny _ _ (ret Value.none) _ _ _ from ?_)
          rw [isz] at le3
          refine wpAny_pure ⟨rfl, h3, t3, c3, rfl, R3, le3, fun b o e => ?_⟩
          have lb : b < s.heap.objs.size := Heap.lt_size e
          refine mv.heap b o (fun q => ?_) (Heap.get?_push_of_some _ (Heap.get?_push_of_some _ e))
          rw [Heap.size_push] at q
          simp only [List.mem_cons, List.not_mem_nil, or_false] at q
          exact q.elim (Nat.ne_of_lt lb) (Nat.ne_of_lt (Nat.lt_succ_of_lt lb))
      · cases r2 with
        | error e => exact hr2
        | ok f2 =>
          cases f2 with
          | ret r =>
            obtain ⟨rfl, h', tk, c3, rfl, R3, le3, k3⟩ := hr2
            repeat any_goals (first | assumption | wp_step)
            exact h _ _ _ R3 le3 k3
          | _ => exact hr2.elim
    | _ => exact hr.elim
end
section
variable {X : Cx}
def rSetL (K : PySem.W.Frag) (w : World) : List V → Hp → VK → Prop := fun xs H Q => ∃ (p : Addr) (ns : List Int), xs = [.ref p] ∧ SqL K H p (ns.map V.int) ∧ ns.length ≤ 1000 ∧
  ∀ (a : Addr) (c : Nat), H a = none → c ≤ ns.length → Q (.ref a) (upd H a (SetO w a (fun j => decide (j ∈ ns)) c))
theorem cr_setL (hc : X.calm = true) : CallR X (.type "set") (rSetL X.K X.w) := by
  intro pins s σ H xs us Q I r h
  obtain ⟨p, ns, rfl, hS, few, q⟩ := h
  rw [Vals.ref1 r]
  obtain ⟨its, rv, pl, hz⟩ := I.list hS
  refine set_of_list ns (I.ok.hd hc) pl.isList (by simpa using intsAre_of rv) (by unfold scanBound; omega) fun h' tk c R le k => ?_
  exact ⟨.ref _, _, I.laid (t' := tk) k (Nat.le_refl _) (setO_new R), rfl, q _ c (I.hok.fresh (Nat.le_refl _)) le⟩
end
end Rw

namespace Rw
open PySem PySem.Spec PyProof.Rows L2
/-! ### the law's own def, called where nothing is being shown (callerA), over a base that is known -/
def AtTop (P : Program) (w : World) (K : PySem.W.Frag) (mg : Str → Option Value) (base : Heap) (f : Addr) (fd : FuncData) (x : Str) (sp : Sp) : Prop :=
  ∀ (s : Shared) (H : Hp) (u : Value) (v : V) (Q : VK), Env0 P w K mg base callerA [] s H → BindsTo s fd ⟨[u], []⟩ [(x, u)] → RelV v u → sp [v] H Q E0 →
    codeAny (model P w) callerA (.call (.ref f) ⟨[u], []⟩) (CR CX0 [] P w H s Q E0) s
section
variable {P : Program} {w : World} {K : PySem.W.Frag} {mg : Str → Option Value} {base : Heap}
theorem atTop_of {f : Addr} {x q y : Str} {st : Stmt} {fd : FuncData} {N : List Str} {k : Nat} {sp : Sp} (F : Fun K x q st f fd) (S : FnScope N [y] (defScope st)) (room : Room (k + 1) callerA)
    (body : ∀ (cdv : Value) (s : Shared) (H : Hp) (v : V) (Q : VK), Room k (callerA.deeper (envOfC q (defScope st) s.heap.objs.size f cdv)) → sp [v] H Q E0 →
      ∃ t, PSs (cxOf CX0 P w K mg base N q (defScope st) f cdv callerA [] s H E0) (defBody st) t ∧ t { nx := fun _ H' => Q .non H', rt := Q } (start N [v]) H) : AtTop P w K mg base f fd y sp := by
  obtain ⟨oc, od, kV, doc, pm, an, cdv, ct, osl, rfl, lk, hcd⟩ := F.ex
  intro s H u v Q e0 hb r hsp
  have KX : K.In s.heap := e0.mod.kin.keeps (fun b o e => (e0.bs b o e).1)
  have lim : s.heap.NoLimit := e0.mod.nolimit.keeps (fun b o e => (e0.bs b o e).1)
  have kinds : ∀ z ∈ [y].zip [u], (defScope st).names.lookup z.1 = some .local ∨ ((defScope st).names.lookup z.1 = some .cell ∧ ((cellsFrom (s.heap.objs.size + 1) (defScope st).names []).lookup z.1).isSome = true) := fun ⟨n, v⟩ hz => by
    rcases S.par n (List.of_mem_zip hz).1 with g | g
    · exact Or.inl g
    · exact Or.inr ⟨g, PySem.W.cellsFrom_some _ _ _ (.inl g)⟩
  refine codeAny_call_function room.depth (KX _ _ lk) rfl S.co S.gen rfl (PySem.W.codeRec_of KX hcd) (hb _ _ _ _ (wpAny_newFunctionEnv_cells S.kind kinds fun env he s1 ic => ?_))
  subst he
  refine ⟨lim.keeps ic.toInCall.keep, codeAny_func ?_⟩
  obtain ⟨t, ht, hq⟩ := body cdv s H v Q (room.deeper _) hsp
  have I : Inv (cxOf CX0 P w K mg base N q (defScope st) f cdv callerA [] s H E0) [] (start N [v]) H s1 := inv_start S room.hd e0 rfl (.cons r .nil) ic
  refine wpAny_mono (ht.run [] s1 (start N [v]) H _ I hq) (fun fl s2 hs => ?_) fun e s2 hs => hs
  cases fl with
  | ret u2 =>
    obtain ⟨v2, σ2, H2, J, rv, z⟩ := hs
    exact ⟨v2, H2, J.os, J.bare, J.base, J.hok, rv, z⟩
  | next =>
    obtain ⟨σ2, H2, J, z⟩ := hs
    exact ⟨V.non, H2, J.os, J.bare, J.base, J.hok, rfl, z⟩
  | brk =>
    obtain ⟨_, _, _, z⟩ := hs
    exact False.elim z
  | cont =>
    obtain ⟨_, _, _, z⟩ := hs
    exact False.elim z
theorem law_at {mb : Str → Option Value} {fa a : Addr} {fd : FuncData} {x : Str} {sp : Sp} {s1 : Shared} {vs : List Value} {ns : List Int}
    (KX : K.In s1.heap) (hns : s1.heap.Ns mainGlobals mg) (hb : s1.heap.Ns builtinsNs mb) (hbb : ∀ x : Str, x ≠ "__name__" → mb x = bootBuiltins x) (lim : s1.heap.NoLimit) (hg : s1.gens = #[])
    (ha : s1.heap.get? a = some { cls := .type "list", data := .seq vs.toArray }) (hi : IntsAre vs ns) (hl : ns.length ≤ sizeLine)
    (F : ∀ base : Heap, K.In base → base.Ns mainGlobals mg → AtTop P w K mg base fa fd x sp) (hbind : ∀ (s : Shared) (u : Value), BindsTo s fd ⟨[u], []⟩ [(x, u)])
    (hsp : ∀ H : Hp, Only H → SqL K H a (ns.map V.int) → sp [.ref a] H (fun v _ => v = .bl true) E0) :
    codeAny (model P w) callerA (.call (.ref fa) ⟨[.ref a], []⟩) (fun r s' => r = .ok (.ret (.bool true)) ∧ OldK s1.heap s'.heap ∧ s'.os = s1.os ∧ AllBare s'.gens) s1 := by
  have core : ∀ H : Hp, Only H → SqL K H a (ns.map V.int) → HOk P w H s1.heap → (∀ b, H b ≠ none → b = a) → (H a ≠ none → K.lookup a = none) →
      codeAny (model P w) callerA (.call (.ref fa) ⟨[.ref a], []⟩) (fun r s' => r = .ok (.ret (.bool true)) ∧ OldK s1.heap s'.heap ∧ s'.os = s1.os ∧ AllBare s'.gens) s1 := by
    intro H hO hS hok hA hK
    have hid : ∀ {b : Addr} {o : Obj}, s1.heap.get? b = some o → H b = none → (hidT s1.heap H).get? b = some o := fun e n => hidT_get e n
    have only : ∀ {b : Addr} {u : HO}, H b = some u → b = a := fun {b u} z => hA b (by rw [z]; exact Option.some_ne_none _)
    have dict_no : ∀ {b : Addr} {o : Obj} {es : Array DictEntry} {ep : Nat}, s1.heap.get? b = some o → o.data = .dict es ep → H b = none := fun {b o es ep} e d => by
      cases z : H b with
      | none => rfl
      | some u =>
        have e' := only z
        subst e'
        rw [ha] at e; cases e
        exact nomatch (show Data.seq vs.toArray _ = Data.dict es ep from d)
    have ns_of : ∀ {b : Addr} {m : Str → Option Value}, s1.heap.Ns b m → (hidT s1.heap H).Ns b m := fun {b m} ⟨o, es, ep, e, d, r⟩ => ⟨o, es, ep, hid e (dict_no e d), d, r⟩
    have kb : K.In (hidT s1.heap H) := fun b o e => hid (KX b o e) (by
      cases z : H b with
      | none => rfl
      | some u =>
        have e' := only z
        subst e'
        rw [hK (by rw [z]; exact Option.some_ne_none _)] at e; cases e)
    have md : Mod K mg (hidT s1.heap H) := ⟨kb, ns_of hns, ⟨mb, ns_of hb, hbb⟩, let ⟨mc, h1, h2⟩ := lim; ⟨mc, ns_of h1, h2⟩⟩
    have e0 : Env0 P w K mg (hidT s1.heap H) callerA [] s1 H := ⟨rfl, md, fun b o e => of_hidT e, Nat.le_of_eq (hidT_size _ _), trivial, fun b z => absurd (show b ∈ ([] : List Addr) from z) List.not_mem_nil, hok, .of_eq hg⟩
    refine codeAny_mono (F _ kb (ns_of hns) s1 H (.ref a) (.ref a) _ e0 (hbind s1 (.ref a)) rfl (hsp H hO hS)) fun r s2 h => ?_
    cases r with
    | error e => exact False.elim h
    | ok fl =>
      cases fl with
      | next => exact False.elim h
      | brk => exact False.elim h
      | cont => exact False.elim h
      | ret u =>
        obtain ⟨v, H2, os, bare, un, hok2, r2, z⟩ := h
        obtain rfl : v = .bl true := z
        obtain rfl : u = Value.bool true := r2
        refine ⟨rfl, OldK.of_keep (fun b o e => ?_), os, bare⟩
        rcases hO b with z | ⟨ob, xs, z⟩
        · exact un.keep b o e z (fun y => absurd (show b ∈ ([] : List Addr) from y) List.not_mem_nil) List.not_mem_nil
        · obtain ⟨e1, _⟩ := hok b _ z
          obtain ⟨e2, _⟩ := hok2 b _ (un.frzs b ob _ z)
          rw [e] at e1; cases e1
          exact e2
  have rv := vals_ints hi
  have ln := hi.length
  cases hk : K.lookup a with
  | some o =>
    have e := KX a o hk
    rw [ha] at e
    cases e
    exact core (fun _ => none) (fun _ => .inl rfl) (.inr ⟨_, vs.toArray, _, hk, rfl, rfl, rfl, by rw [List.size_toArray, ln]; exact hl, by simpa using rv⟩) (fun b u z => nomatch (show (none : Option HO) = some u from z)) (fun b z => absurd rfl z) (fun z => absurd rfl z)
  | none =>
    refine core (upd (fun _ => none) a (.frz { cls := .type "list", data := .seq vs.toArray } (.lst (ns.map V.int)))) (fun b => ?_) (.inl (.inr ⟨{ cls := .type "list", data := .seq vs.toArray }, upd_same⟩)) (fun b u z => ?_) (fun b z => ?_) (fun _ => hk)
    · by_cases e : b = a
      · rw [e]; exact .inr ⟨_, _, upd_same⟩
      · exact .inl (upd_ne e)
    · by_cases e : b = a
      · subst e
        rw [upd_same] at z
        cases z
        exact ⟨ha, by rw [List.length_map]; exact hl, vs, _, rv, ha⟩
      · rw [upd_ne e] at z
        cases z
    · by_cases e : b = a
      · exact e
      · exact absurd (upd_ne e) z
end
/-! what k_head leaves, from the law's promise -/
theorem walk_top {l : PySem.W.OpenLaw} {n : Nat} {q : Program} {loose : List Str} {XP : (Str → Option Value) → Heap → Prop} {YP : World → Heap → Prop} {d : DefRec} {K : Params → PySem.W.Frag} {sp : World → Sp} {x : Str}
    (hn : l.most = some n) (hn2 : n ≤ sizeLine) (hdf : d.params.defaults = []) (hY : ∀ (w : World) (h : Heap), YP w h → (K w.params).In h)
    (F : ∀ (w : World) (mg : Str → Option Value) (fa : Addr) (h : Heap), (K w.params).In h → h.Ns mainGlobals mg → mg d.name = some (.ref fa) →
      ∃ fd : FuncData, (∀ (s : Shared) (u : Value), BindsTo s fd ⟨[u], []⟩ [(x, u)]) ∧ ∀ base : Heap, (K w.params).In base → base.Ns mainGlobals mg → AtTop l.prog w (K w.params) mg base fa fd x (sp w))
    (hsp : ∀ (w : World) (H : Hp) (a : Addr) (ns : List Int), ns.length ≤ n → Only H → SqL (K w.params) H a (ns.map V.int) → sp w [.ref a] H (fun v _ => v = .bl true) E0) :
    PySem.W.WalkO q loose XP YP l.row.toRowW d [] (fun f vs => PySem.call f vs) := by
  refine Att.attach_call hn hdf (fun w s0 s1 mg mb fa o pm cd doc a vs ns G Y ho hd hcd hmg hobj hin hlen hg => ?_)
  have KX := hY w _ Y
  obtain ⟨fd, hb, hF⟩ := F w mg fa _ KX G.T.g hmg
  exact law_at KX G.T.g G.T.b G.T.builtins G.T.nolimit hg hobj hin (Nat.le_trans hlen hn2) hF hb (fun H hO hS => hsp w H a ns hlen hO hS)
end Rw

namespace Rw
open PySem PySem.Spec PyProof.Rows L2
/-! ### the text -/
def topS (i : Nat) : Stmt := PySem.Challenge.pw_ropewarren_k06_whole_far_distances.main.body.getD i (.Pass ⟨0, 0, 0, 0⟩)
/-! ### what stands at the top: a def that keeps a promise, built-ins that are still theirs -/
def Can (P : Program) (w : World) (K : PySem.W.Frag) (mg : Str → Option Value) (base : Heap) (x : Str) (ps : List Str) (k : Nat) (sp : Sp) : Prop :=
  ∃ f fd, FnOk P w K mg base CX0 k f fd ps sp ∧ mg x = some (.ref f) ∧ PySem.W.keepIn K (.ref f) = true ∧ Binds K fd ps []
def Has (K : PySem.W.Frag) (mg : Str → Option Value) (x : Str) (st : Stmt) : Prop := ∃ f fd, Fun K x x st f fd ∧ mg x = some (.ref f)
structure Blt (mg : Str → Option Value) : Prop where
  isi : mg "isinstance" = none
  int_ : mg "int" = none
  bool_ : mg "bool" = none
  tuple_ : mg "tuple" = none
  list_ : mg "list" = none
  len_ : mg "len" = none
  abs_ : mg "abs" = none
  sorted_ : mg "sorted" = none
  set_ : mg "set" = none
  range_ : mg "range" = none
  min_ : mg "min" = none
  str_ : mg "str" = none
  reversed_ : mg "reversed" = none
  repr_ : mg "repr" = none
  enum_ : mg "enumerate" = none
  max_ : mg "max" = none
  sum_ : mg "sum" = none
  all_ : mg "all" = none
  any_ : mg "any" = none
theorem pe_can {X : Cx} {x : Str} {ps : List Str} {k : Nat} {sp : Sp} {e : Expr} {es : List Expr} {t : TA} {p pos : Pos} (C : Can X.prog X.w X.K X.mg X.base x ps k sp) (hr : Room k X.A) (hg : Gl X x)
    (ha : PA X (e :: es) t) (hdb : (x == ("__debug__" : Str)) = false := by decide) (he : starEach (e :: es) X.env = (false, eval e X.env) :: starEach es X.env := by rfl) (hpl : (backTo pos (starEach es X.env)).any (·.1) = false := by rfl) :
    PE X (.Call (.Name x p) (e :: es) [] pos) (tCall sp [] E0 t) := by
  obtain ⟨f, fd, F, gm, kp, b⟩ := C
  exact pe_call F hr hg gm kp b .nil pass0 ha hdb he hpl
/-! ### isinstance of data -/
def tn : PyData → String
  | .none => "NoneType"
  | .bool _ => "bool"
  | .int _ => "int"
  | .str _ => "str"
  | .list _ => "list"
  | .tuple _ => "tuple"
  | .dict _ => "dict"
theorem Dt.ty {K : PySem.W.Frag} {av : List Addr} {H : Hp} {v : V} {d : PyData} (x : Dt av H v d) : TyX K H v (.type (tn d)) := by
  cases x with
  | non => exact .base .non
  | bl b => exact .base (.bl b)
  | int i => exact .base (.int i)
  | str y => exact .base (.str y)
  | lst _ e _ => exact .base (.lst e)
  | tup _ e _ => exact .base (.tup e)
  | dct _ e => exact .base (.dK e)
def aInt : PyData → Bool
  | .int _ => true
  | .bool _ => true
  | _ => false
def aBool : PyData → Bool
  | .bool _ => true
  | _ => false
def aTup : PyData → Bool
  | .tuple _ => true
  | _ => false
theorem kit_int (d : PyData) : kitB (tn d) "int" = some (aInt d) := by
  cases d <;> first | exact (show kitB "NoneType" "int" = some false by decide +kernel) | exact (show kitB "bool" "int" = some true by decide +kernel) | exact (show kitB "int" "int" = some true by decide +kernel) | exact (show kitB "str" "int" = some false by decide +kernel) | exact (show kitB "list" "int" = some false by decide +kernel) | exact (show kitB "tuple" "int" = some false by decide +kernel) | exact (show kitB "dict" "int" = some false by decide +kernel)
theorem kit_bool (d : PyData) : kitB (tn d) "bool" = some (aBool d) := by
  cases d <;> first | exact (show kitB "NoneType" "bool" = some false by decide +kernel) | exact (show kitB "bool" "bool" = some true by decide +kernel) | exact (show kitB "int" "bool" = some false by decide +kernel) | exact (show kitB "str" "bool" = some false by decide +kernel) | exact (show kitB "list" "bool" = some false by decide +kernel) | exact (show kitB "tuple" "bool" = some false by decide +kernel) | exact (show kitB "dict" "bool" = some false by decide +kernel)
theorem kit_tup (d : PyData) : kitB (tn d) "tuple" = some (aTup d) := by
  cases d <;> first | exact (show kitB "NoneType" "tuple" = some false by decide +kernel) | exact (show kitB "bool" "tuple" = some false by decide +kernel) | exact (show kitB "int" "tuple" = some false by decide +kernel) | exact (show kitB "str" "tuple" = some false by decide +kernel) | exact (show kitB "list" "tuple" = some false by decide +kernel) | exact (show kitB "tuple" "tuple" = some true by decide +kernel) | exact (show kitB "dict" "tuple" = some false by decide +kernel)
def rIs (T : String) (f : PyData → Bool) : List V → Hp → VK → Prop := fun xs H Q => ∃ v d av, xs = [v, .ty T] ∧ Dt av H v d ∧ Q (.bl (f d)) H
theorem call_isD {X : Cx} {T : String} {f : PyData → Bool} (hf : ∀ d, kitB (tn d) T = some (f d)) : CallR X (.builtin "isinstance") (rIs T f) := by
  intro pins s σ H xs us Q I r h
  obtain ⟨v, d, av, e, hd, q⟩ := h
  exact call_isi pins s σ H xs us Q I r ⟨v, .ty T, .type (tn d), .type T, f d, e, .ty T, hd.ty, kit_ty (hf d), q⟩
end Rw

namespace Rw
open PySem PySem.Spec PyProof.Rows L2
/-! ### places of a house, by data -/
def lenOf : PyData → Int
  | .tuple (_ :: _ :: .int l :: _) => l
  | _ => 0
def PipesOk (ps : List PyData) : Prop := ∀ p ∈ ps, ∃ a b l r, p = .tuple (a :: b :: .int l :: r)
def houseD (n : Int) (ps : List PyData) : PyData := .tuple [.int n, .tuple ps]
end Rw

namespace Rw
open PySem PySem.Spec PyProof.Rows L2
theorem Keep.upd {av : List Addr} {H H1 : Hp} {p : Addr} {o : HO} (n : H p = none) (k : Keep av H H1) : Keep av H (upd H1 p o) := fun b z e nb => by
  rw [upd_ne (ne_of_none e n)]; exact k b z e nb
theorem Keep.set {av : List Addr} {H H1 : Hp} {p : Addr} {o : HO} (n : p ∈ av) (k : Keep av H H1) : Keep av H (L2.upd H1 p o) := k.trans (Keep.put n)
theorem Keep.same {H H1 : Hp} (k : Keep [] H H1) : Same H H1 := fun b o e => k b o e List.not_mem_nil
theorem Keep.of {av : List Addr} {H H1 : Hp} (k : Keep [] H H1) : Keep av H H1 := k.mono fun _ m => nomatch m
theorem cut_to (xs : List V) (k : Nat) : cutV xs none (some (k : Int)) = xs.take k := by
  unfold cutV
  rw [HT.sIx_none, HT.sIx_nat, List.drop_zero, Nat.sub_zero]
  by_cases h : k ≤ xs.length
  · rw [Nat.min_eq_left h]
  · rw [Nat.min_eq_right (by omega), List.take_of_length_le (Nat.le_refl _), List.take_of_length_le (by omega)]
theorem cut_from (xs : List V) (k : Nat) : cutV xs (some (k : Int)) none = xs.drop k := by
  unfold cutV
  rw [HT.sIx_none, HT.sIx_nat]
  by_cases h : k ≤ xs.length
  · rw [Nat.min_eq_left h, List.take_of_length_le (by rw [List.length_drop]; exact Nat.le_refl _)]
  · rw [Nat.min_eq_right (by omega), List.drop_of_length_le (Nat.le_refl _), List.drop_of_length_le (show xs.length ≤ k by omega), List.take_nil]
/-! ### the deck: its cells, its rests, its count (at most b) -/
structure Deck (H : Hp) (D C R : Addr) (b : Int) : Prop where
  ex : ∃ (ns rs : List Int) (c : Int), H D = some (.lst [.ref C, .ref R, .int c]) ∧ H C = some (.lst (ns.map V.int)) ∧ H R = some (.lst (rs.map V.int)) ∧
    rs.length = ns.length ∧ 0 < ns.length ∧ ns.length ≤ 100 ∧ (∀ n ∈ ns, 0 ≤ n) ∧ (∀ r ∈ rs, 0 ≤ r) ∧ 0 ≤ c ∧ c ≤ b
  cr : C ≠ R
  dc : D ≠ C
  dr : D ≠ R
theorem Deck.mono {H : Hp} {D C R : Addr} {b b' : Int} (x : Deck H D C R b) (h : b ≤ b') : Deck H D C R b' := by
  obtain ⟨⟨ns, rs, c, e1, e2, e3, e4, e5, e6, e7, e8, e9, e10⟩, n1, n2, n3⟩ := x
  exact ⟨⟨ns, rs, c, e1, e2, e3, e4, e5, e6, e7, e8, e9, by omega⟩, n1, n2, n3⟩
theorem Deck.keep {H H' : Hp} {D C R : Addr} {b : Int} (x : Deck H D C R b) (k : Keep [] H H') : Deck H' D C R b := by
  obtain ⟨⟨ns, rs, c, e1, e2, e3, r⟩, n1, n2, n3⟩ := x
  exact ⟨⟨ns, rs, c, k _ _ e1 List.not_mem_nil, k _ _ e2 List.not_mem_nil, k _ _ e3 List.not_mem_nil, r⟩, n1, n2, n3⟩
/-! a store elsewhere leaves the deck -/
theorem Deck.other {H : Hp} {D C R p : Addr} {b : Int} {o : HO} (x : Deck H D C R b) (h1 : p ≠ D) (h2 : p ≠ C) (h3 : p ≠ R) : Deck (upd H p o) D C R b := by
  obtain ⟨⟨ns, rs, c, e1, e2, e3, r⟩, n1, n2, n3⟩ := x
  exact ⟨⟨ns, rs, c, by rw [upd_ne h1.symm]; exact e1, by rw [upd_ne h2.symm]; exact e2, by rw [upd_ne h3.symm]; exact e3, r⟩, n1, n2, n3⟩
theorem Deck.ne {H : Hp} {D C R p : Addr} {b : Int} (x : Deck H D C R b) (n : H p = none) : p ≠ D ∧ p ≠ C ∧ p ≠ R := by
  obtain ⟨⟨ns, rs, c, e1, e2, e3, r⟩, _⟩ := x
  exact ⟨(ne_of_none e1 n).symm, (ne_of_none e2 n).symm, (ne_of_none e3 n).symm⟩
theorem Deck.new {H : Hp} {D C R p : Addr} {b : Int} {o : HO} (x : Deck H D C R b) (n : H p = none) : Deck (upd H p o) D C R b :=
  x.other (x.ne n).1 (x.ne n).2.1 (x.ne n).2.2
section
variable {P : Program} {w : World} {K : PySem.W.Frag} {mg : Str → Option Value} {base : Heap}
abbrev sDeck : Stmt := topS 30
theorem scDeck : FnScope ["_law_script", "_law_cells", "_law_cell"] ["_law_script"] (defScope sDeck) := ⟨rfl, rfl, rfl, by decide +kernel, rfl, by decide +kernel, by decide +kernel⟩
def spDeck (K : PySem.W.Frag) : Sp := fun vs H Q _ => ∃ (a : Addr) (ns : List Int), vs = [.ref a] ∧ SqL K H a (ns.map V.int) ∧ ns.length ≤ 63 ∧
  ∀ H' D C R, Keep [] H H' → H D = none → H C = none → H R = none → Deck H' D C R 0 → Q (.ref D) H'
theorem abs_nn (i : Int) : 0 ≤ (if i < 0 then -i else i) := by split <;> omega
theorem ok_deck (h : Has K mg "_law_deck" sDeck) (B : Blt mg) : Can P w K mg base "_law_deck" ["_law_script"] 1 (spDeck K) := by
  obtain ⟨f, fd, F, g⟩ := h
  refine ⟨f, fd, F.ok (k := 0) scDeck (fun vs H Q E h => ?_) (fun cdv A outer s H vs Q E hr h => ?_), g, F.kp, F.binds fun _ _ _ _ _ _ us hl => match us, hl with | [_], _ => rfl⟩
  · obtain ⟨a, ns, rfl, _⟩ := h
    rfl
  · obtain ⟨a, ns, rfl, hS, hlen, q⟩ := h
    refine ⟨_, pss_cons (ps_set (i := 1) scDeck.nd rfl (.inl rfl) (pe_op op_cat
        (pe_lc (own := [("_law_cell", 2)]) (g := gName 2) (tt := tYes) rfl scDeck.nd (pi_list (pe_slice sl_list (pv 0) po_none (po_some pe_int))) (blkOk_by (N := ["_law_script", "_law_cells", "_law_cell"]) (sc := defScope sDeck) (by decide +kernel))
          (fun _ _ _ _ _ => pg_name (i := 2) scDeck.nd rfl (Or.inl rfl)) (fun _ _ _ _ _ => pts_nil) (fun _ _ _ _ _ => pe_callB call_abs (by rfl) B.abs_ boot_abs (pa_cons (pv 2) pa_nil)))
        (pe_op op_rep (pe_lst (pa_cons pe_int pa_nil)) (pe_callTy call_int1 (by rfl) B.int_ boot_int (pa_cons (pe_cmpR op_eq (pe_callB call_len_seq (by rfl) B.len_ PySem.boot_len (pa_cons (pv 0) pa_nil)) pe_int (nomark _)) pa_nil)))))
      (pss_one (ps_ret (pe_lst (pa_cons (pv 1) (pa_cons
        (pe_lc (own := [("_law_cell", 2)]) (g := gName 2) (tt := tYes) rfl scDeck.nd (pi_list (pv 1)) (blkOk_by (N := ["_law_script", "_law_cells", "_law_cell"]) (sc := defScope sDeck) (by decide +kernel))
          (fun _ _ _ _ _ => pg_name (i := 2) scDeck.nd rfl (Or.inl rfl)) (fun _ _ _ _ _ => pts_nil) (fun _ _ _ _ _ => pe_op op_mul (pv 2) (pe_callTy call_int1 (by rfl) B.int_ boot_int (pa_cons (pe_cmpR op_ge (pv 2) (pe_op op_pow pe_int pe_int) (nomark _)) pa_nil))))
        (pa_cons pe_int pa_nil)))))), ?_⟩
    refine ⟨.ref a, rfl, 62, rfl, a, _, rfl, hS, fun c nc => ?_⟩
    rw [show cutV (ns.map V.int) none (some 62) = (ns.take 62).map V.int by rw [show (62 : Int) = ((62 : Nat) : Int) from rfl, cut_to, List.map_take]]
    refine ⟨c, rfl, ⟨_, SqL.of upd_same⟩, fun D nD => ?_⟩
    have k1 : Keep [] H (upd H c (.lst ((ns.take 62).map V.int))) := Keep.new nc
    refine lc_list (K := K) (a := c) (xs := (ns.take 62).map V.int)
      (fun i G => Keep [] (upd H c (.lst ((ns.take 62).map V.int))) G ∧ ∃ cs : List Int, cs.length = i ∧ (∀ n ∈ cs, 0 ≤ n) ∧ G D = some (.lst (cs.map V.int)))
      ⟨Keep.new nD, [], rfl, fun _ m => absurd m List.not_mem_nil, upd_same⟩ (fun i G _ p => p.1.same.seq (SqL.of upd_same)) (fun i x G hx p => ?_) (fun G p => ?_)
    · obtain ⟨k2, cs, l2, c2, e2⟩ := p
      rw [List.getElem?_map] at hx
      obtain ⟨n, hn, rfl⟩ := Option.map_eq_some_iff.mp hx
      have hi : i < 62 := by
        have := (List.getElem?_eq_some_iff.mp hn).1
        rw [List.length_take] at this; omega
      refine ⟨rfl, .int n, rfl, n, rfl, cs.map V.int, e2, by rw [List.length_map, l2]; exact small1000 (by omega), k2.upd nD, cs ++ [if n < 0 then -n else n], by rw [List.length_append, l2]; rfl, fun z hz => ?_, by rw [upd_same, List.map_append]; rfl⟩
      rcases List.mem_append.mp hz with hz | hz
      · exact c2 z hz
      · rw [List.mem_singleton.mp hz]; exact abs_nn n
    · obtain ⟨k2, cs, l2, c2, e2⟩ := p
      have l3 : cs.length = min 62 ns.length := by rw [l2, List.length_map, List.length_take]
      have k3 : Keep [] H G := k1.trans k2
      refine ⟨by decide, fun z nz => ?_⟩
      have e3 : (upd G z (.lst [.int 0])) D = some (.lst (cs.map V.int)) := by rw [upd_ne (ne_of_none e2 nz)]; exact e2
      have k4 : Keep [] H (upd G z (.lst [.int 0])) := k3.trans (Keep.new nz)
      refine ⟨.ref a, rfl, a, _, rfl, .inl (k4.same.seq hS), rfl, .inr ⟨_, rfl, z, _, _, rfl, rfl, upd_same, ?_, ?_, ?_, fun y ny => ?_⟩⟩
      · split <;> decide
      · split <;> decide
      · split <;> decide
      · have k5 := k4.trans (Keep.new (av := []) (o := .lst (List.replicate (Int.toNat (if decide (V.int ((ns.map V.int).length : Int) = V.int 0) = true then 1 else 0)) [V.int 0]).flatten) ny)
        obtain ⟨zs, ez, lz, pz⟩ : ∃ zs : List Int, (List.replicate (Int.toNat (if decide (V.int ((ns.map V.int).length : Int) = V.int 0) = true then 1 else 0)) [V.int 0]).flatten = zs.map V.int ∧ zs.length ≤ 1 ∧ (∀ n ∈ zs, 0 ≤ n) ∧ (ns.length = 0 → zs.length = 1) := by
          by_cases h0 : ns.length = 0
          · refine ⟨[0], ?_, by decide, fun n hn => by rw [List.mem_singleton.mp hn]; decide, fun _ => rfl⟩
            rw [List.length_map, h0]; rfl
          · refine ⟨[], ?_, by decide, (fun n hn => nomatch hn), fun e => absurd e h0⟩
            rw [if_neg]
            · rfl
            · rw [decide_eq_true_eq, List.length_map]
              intro e
              have := V.int.inj e
              omega
        rw [ez] at k5 ⊢
        refine ⟨D, y, _, _, rfl, rfl, by rw [upd_ne (ne_of_none e3 ny)]; exact e3, upd_same, ?_, fun C nC => ?_⟩
        · rw [List.length_map, List.length_map]
          exact Nat.le_of_lt (small1000 (by omega))
        · rw [← List.map_append]
          have k6 := k5.trans (Keep.new (av := []) (o := .lst ((cs ++ zs).map V.int)) nC)
          have hall : ∀ n ∈ cs ++ zs, 0 ≤ n := fun n hn => (List.mem_append.mp hn).elim (c2 n) (pz.1 n)
          have hl1 : (cs ++ zs).length ≤ 100 := by rw [List.length_append]; omega
          have hl0 : 0 < (cs ++ zs).length := by
            rw [List.length_append]
            by_cases h0 : ns.length = 0
            · have := pz.2 h0; omega
            · omega
          generalize cs ++ zs = ms at *
          generalize hG1 : upd _ C _ = G1 at k6 ⊢
          have eC : G1 C = some (.lst (ms.map V.int)) := by rw [← hG1]; exact upd_same
          have nHC : H C = none := by
            cases hq : H C with
            | none => rfl
            | some o =>
              have := k5.same C o hq
              rw [nC] at this; cases this
          refine ⟨.ref C, rfl, .ref C, rfl, C, rfl, ⟨_, SqL.of eC⟩, fun R nR => ?_⟩
          refine lc_list (K := K) (a := C) (xs := ms.map V.int)
            (fun i J => Keep [] G1 J ∧ ∃ rs : List Int, rs.length = i ∧ (∀ n ∈ rs, 0 ≤ n) ∧ J R = some (.lst (rs.map V.int)))
            ⟨Keep.new nR, [], rfl, fun _ m => absurd m List.not_mem_nil, upd_same⟩ (fun i J _ p => p.1.same.seq (SqL.of eC)) (fun i x J hx p => ?_) (fun J p => ?_)
          · obtain ⟨k7, rs, l7, c7, e7⟩ := p
            rw [List.getElem?_map] at hx
            obtain ⟨n, hn, rfl⟩ := Option.map_eq_some_iff.mp hx
            have hi : i < ms.length := (List.getElem?_eq_some_iff.mp hn).1
            have h0n : 0 ≤ n := hall n (List.mem_of_getElem? hn)
            refine ⟨rfl, .int n, rfl, .int n, rfl, 10, 18, rfl, rfl, ⟨by decide, by decide, by decide⟩, n, _, rfl, rfl, .inr ⟨_, rfl, n, _, rfl, rfl, .inr ?_, rs.map V.int, e7, by rw [List.length_map, l7]; exact small1000 (by omega), k7.upd nR, rs ++ [n * (if decide (n ≥ 10 ^ 18) = true then 1 else 0)], by rw [List.length_append, l7]; rfl, fun z hz => ?_, by rw [upd_same, List.map_append]; rfl⟩⟩
            · constructor <;> (split <;> decide)
            · rcases List.mem_append.mp hz with hz | hz
              · exact c7 z hz
              · rw [List.mem_singleton.mp hz]
                split <;> omega
          · obtain ⟨k7, rs, l7, c7, e7⟩ := p
            have eC2 : J C = some (.lst (ms.map V.int)) := k7.same _ _ eC
            refine ⟨show 3 ≤ sizeLine by decide, fun D2 nD2 => ?_⟩
            have k8 := k6.trans (k7.trans (Keep.new (av := []) (o := .lst [.ref C, .ref R, .int 0]) nD2))
            have fr : ∀ {p : Addr} {J' : Hp}, J' p = none → Keep [] H J' → H p = none := fun {p J'} n k => by
              cases hq : H p with
              | none => rfl
              | some o => rw [k.same p o hq] at n; cases n
            refine q _ D2 C R k8 (fr nD2 (k6.trans k7)) nHC (fr nR k6) ⟨⟨ms, rs, 0, upd_same, ?_, ?_, ?_, hl0, hl1, hall, c7, by decide, by decide⟩, ?_, ?_, ?_⟩
            · rw [upd_ne (ne_of_none eC2 nD2)]; exact eC2
            · rw [upd_ne (ne_of_none e7 nD2)]; exact e7
            · rw [l7, List.length_map]
            · exact ne_of_none eC nR
            · exact (ne_of_none eC2 nD2).symm
            · exact (ne_of_none e7 nD2).symm
end
end Rw

namespace Rw
open PySem PySem.Spec PyProof.Rows L2
theorem ixN_at {n : Nat} {i : Int} (h0 : 0 ≤ i) (h : i < n) : ixN n i = some i.toNat := by
  unfold ixN
  rw [if_pos h0]
  first | rw [if_pos (show i.toNat < n by omega)] | (rw [if_pos (show i < n by omega)])
theorem set_map (rs : List Int) (j : Nat) (x : Int) : (rs.map V.int).set j (.int x) = (rs.set j x).map V.int := by rw [List.map_set]
section
variable {P : Program} {w : World} {K : PySem.W.Frag} {mg : Str → Option Value} {base : Heap}
abbrev sNext : Stmt := topS 31
theorem scNext : FnScope ["_law_deck_here", "_law_many", "_law_cells", "_law_rests", "_law_count", "_law_spot", "_law_digit", "_law_mixed"] ["_law_deck_here", "_law_many"] (defScope sNext) := ⟨rfl, rfl, rfl, by decide +kernel, rfl, by decide +kernel, by decide +kernel⟩
def spNext : Sp := fun vs H Q _ => ∃ (D C R : Addr) (b m : Int), vs = [.ref D, .int m] ∧ 1 ≤ m ∧ m ≤ 100000000000000 ∧ Deck H D C R b ∧ b ≤ 1000000000 ∧
  ∀ H' k, Keep [D, R] H H' → Deck H' D C R (b + 1) → 0 ≤ k → k < m → Q (.int k) H'
theorem ok_next (h : Has K mg "_law_next" sNext) (B : Blt mg) : Can P w K mg base "_law_next" ["_law_deck_here", "_law_many"] 1 spNext := by
  obtain ⟨f, fd, F, g⟩ := h
  refine ⟨f, fd, F.ok (k := 0) scNext (fun vs H Q E h => ?_) (fun cdv A outer s H vs Q E hr h => ?_), g, F.kp, F.binds fun _ _ _ _ _ _ us hl => match us, hl with | [_, _], _ => rfl⟩
  · obtain ⟨D, C, R, b, m, rfl, _⟩ := h
    rfl
  · obtain ⟨D, C, R, b, m, rfl, m1, m2, dk, hb, q⟩ := h
    obtain ⟨⟨ns, rs, c, eD, eC, eR, lr, l0, l1, pn, pr, c0, cb⟩, nCR, nDC, nDR⟩ := dk
    refine ⟨_, pss_cons (ps_asg (pv 0) (pg_unl rfl (pgs_cons (pg_name (i := 2) scNext.nd rfl (.inl rfl)) (pgs_cons (pg_name (i := 3) scNext.nd rfl (.inl rfl)) (pgs_cons (pg_name (i := 4) scNext.nd rfl (.inl rfl)) pgs_nil)))))
      (pss_cons (ps_asg (pe_op op_add (pv 4) pe_int) (pg_sub (pv 0) pe_int set_list))
      (pss_cons (ps_set (i := 5) scNext.nd rfl (.inl rfl) (pe_op op_mod (pv 4) (pe_callB call_len_seq (by rfl) B.len_ PySem.boot_len (pa_cons (pv 2) pa_nil))))
      (pss_cons (ps_if (pt_cmpR op_gt (pe_ix ix_list (pv 3) (pv 5) (fun _ _ => rfl)) pe_int (nomark _))
        (pss_cons (ps_set (i := 6) scNext.nd rfl (.inl rfl) (pe_op op_mod (pe_ix ix_list (pv 3) (pv 5) (fun _ _ => rfl)) (pv 1)))
        (pss_cons (ps_asg (pe_op op_fdivW (pe_ix ix_list (pv 3) (pv 5) (fun _ _ => rfl)) (pv 1)) (pg_sub (pv 3) (pv 5) set_list))
        (pss_one (ps_ret (pv 6))))) pss_nil)
      (pss_cons (ps_set (i := 7) scNext.nd rfl (.inl rfl) (pe_op op_mul (pe_op op_add (pe_op op_add (pe_ix ix_list (pv 2) (pv 5) (fun _ _ => rfl)) (pe_op op_mul pe_int (pv 4))) pe_int) (pe_op op_add pe_int (pe_op op_mul pe_int (pv 4)))))
      (pss_cons (ps_set (i := 7) scNext.nd rfl (.inl rfl) (pe_op op_mod (pe_op op_add (pv 7) (pe_op op_mul pe_int (pv 4))) pe_int))
      (pss_cons (ps_set (i := 7) scNext.nd rfl (.inl rfl) (pe_op op_mod (pe_op op_add (pe_op op_mul (pv 7) (pv 7)) pe_int) pe_int))
      (pss_cons (ps_set (i := 7) scNext.nd rfl (.inl rfl) (pe_op op_mod (pe_op op_mul (pv 7) (pv 7)) pe_int))
      (pss_one (ps_ret (pe_op op_mod (pe_op op_fdiv (pv 7) pe_int) (pv 1))))))))))), ?_⟩
    refine ⟨.ref D, rfl, D, _, rfl, SqL.of eD, rfl, .ref C, _, rfl, .ref R, _, rfl, .int c, [], rfl, rfl, ?_⟩
    refine ⟨.int c, rfl, c, 1, rfl, rfl, .ref D, rfl, D, _, 2, 2, rfl, rfl, eD, rfl, ?_⟩
    have eD1 : upd H D (.lst [.ref C, .ref R, .int (c + 1)]) D = some (.lst [.ref C, .ref R, .int (c + 1)]) := upd_same
    have eC1 : upd H D (.lst [.ref C, .ref R, .int (c + 1)]) C = some (.lst (ns.map V.int)) := by rw [upd_ne nDC.symm]; exact eC
    have eR1 : upd H D (.lst [.ref C, .ref R, .int (c + 1)]) R = some (.lst (rs.map V.int)) := by rw [upd_ne nDR.symm]; exact eR
    have k1 : Keep [D, R] H (upd H D (.lst [.ref C, .ref R, .int (c + 1)])) := Keep.put (by simp)
    show (_ : Prop)
    generalize hG : upd H D (.lst ([V.ref C, V.ref R, V.int c].set 2 (V.int (c + 1)))) = G
    have hG' : upd H D (.lst [.ref C, .ref R, .int (c + 1)]) = G := hG
    rw [hG'] at eD1 eC1 eR1 k1
    have lnn : ((ns.map V.int).length : Int) = (ns.length : Int) := by rw [List.length_map]
    have sp0 : 0 ≤ c % (ns.length : Int) := Int.emod_nonneg _ (by omega)
    have sp1 : c % (ns.length : Int) < (ns.length : Int) := Int.emod_lt_of_pos _ (by omega)
    refine ⟨.int c, rfl, .ref C, rfl, C, _, rfl, .inl (SqL.of eC1), c, _, rfl, rfl, by rw [lnn]; omega, ?_⟩
    rw [lnn]
    dsimp only
    generalize hsp : c % (ns.length : Int) = sp at sp0 sp1 ⊢
    have atR : atI (rs.map V.int) sp = some (.int (rs.getD sp.toNat 0)) := by
      have e : ((sp.toNat : Nat) : Int) = sp := by omega
      rw [← e]
      refine atI_nat ?_
      rw [List.getElem?_map, List.getD_eq_getElem?_getD, List.getElem?_eq_getElem (show ((sp.toNat : Nat) : Int).toNat < rs.length by omega)]
      simp only [Int.toNat_natCast]
      rw [List.getElem?_eq_getElem (show sp.toNat < rs.length by omega)]; rfl
    have atC : atI (ns.map V.int) sp = some (.int (ns.getD sp.toNat 0)) := by
      have e : ((sp.toNat : Nat) : Int) = sp := by omega
      rw [← e]
      refine atI_nat ?_
      rw [List.getElem?_map, List.getD_eq_getElem?_getD]
      simp only [Int.toNat_natCast]
      rw [List.getElem?_eq_getElem (show sp.toNat < ns.length by omega)]; rfl
    generalize hr0 : rs.getD sp.toNat 0 = r at atR
    generalize hn0 : ns.getD sp.toNat 0 = n at atC
    refine ⟨.ref R, rfl, .int sp, rfl, R, _, sp, .int r, rfl, rfl, SqL.of eR1, atR, r, 0, rfl, rfl, _, rfl, ite2 (fun e => ?_) (fun e => ?_)⟩
    · have r0 : 0 < r := of_decide_eq_true e
      refine ⟨.ref R, rfl, .int sp, rfl, R, _, sp, .int r, rfl, rfl, SqL.of eR1, atR, .int m, rfl, r, m, rfl, rfl, (show (0 : Int) < m by omega), ?_⟩
      refine ⟨.ref R, rfl, .int sp, rfl, R, _, sp, .int r, rfl, rfl, SqL.of eR1, atR, .int m, rfl, r, m, rfl, rfl, wide_div (b := 64) (by omega) (by omega) (by decide) (by decide), ?_⟩
      refine ⟨.ref R, rfl, .int sp, rfl, R, _, sp, sp.toNat, rfl, rfl, eR1, ixN_at sp0 (by rw [List.length_map]; omega), ?_⟩
      rw [set_map]
      refine ⟨.int (r % m), rfl, q _ _ (k1.trans (Keep.put (by simp))) ⟨⟨ns, rs.set sp.toNat (r / m), c + 1, ?_, ?_, upd_same, ?_, l0, l1, pn, ?_, by omega, by omega⟩, nCR, nDC, nDR⟩ (Int.emod_nonneg _ (by omega)) (Int.emod_lt_of_pos _ (by omega))⟩
      · rw [upd_ne nDR]; exact eD1
      · rw [upd_ne nCR]; exact eC1
      · rw [List.length_set]; exact lr
      · intro z hz
        rcases List.mem_or_eq_of_mem_set hz with hz | hz
        · exact pr z hz
        · rw [hz]; exact Int.ediv_nonneg (by omega) (by omega)
    · have fin : ∀ x : Int, 0 ≤ x → Q (.int (x / 512 % m)) G := fun x hx =>
        q _ _ k1 ⟨⟨ns, rs, c + 1, eD1, eC1, eR1, lr, l0, l1, pn, pr, by omega, by omega⟩, nCR, nDC, nDR⟩ (Int.emod_nonneg _ (by omega)) (Int.emod_lt_of_pos _ (by omega))
      refine ⟨.ref C, rfl, .int sp, rfl, C, _, sp, .int n, rfl, rfl, SqL.of eC1, atC, .int c, rfl, 1009, c, rfl, rfl, .inl ⟨by decide, by decide⟩, n, _, rfl, rfl, _, 3, rfl, rfl, .int c, rfl, 2, c, rfl, rfl, .inl ⟨by decide, by decide⟩, 50021, _, rfl, rfl, _, _, rfl, rfl, .inr ⟨by omega, by omega⟩, ?_⟩
      dsimp only
      generalize (n + 1009 * c + 3) * (50021 + 2 * c) = x1
      refine ⟨.int x1, rfl, .int c, rfl, 60013, c, rfl, rfl, .inl ⟨by decide, by decide⟩, x1, _, rfl, rfl, _, _, rfl, rfl, (show (0 : Int) < 2305843009213693951 by decide), ?_⟩
      have y0 : 0 ≤ (x1 + 60013 * c) % 2305843009213693951 := Int.emod_nonneg _ (by decide)
      have y1 : (x1 + 60013 * c) % 2305843009213693951 < 2305843009213693951 := Int.emod_lt_of_pos _ (by decide)
      dsimp only
      generalize (x1 + 60013 * c) % 2305843009213693951 = x2 at y0 y1 ⊢
      refine ⟨.int x2, rfl, .int x2, rfl, x2, x2, rfl, rfl, .inl ⟨by omega, by omega⟩, _, 79633, rfl, rfl, _, _, rfl, rfl, (show (0 : Int) < 2305843009213693921 by decide), ?_⟩
      have z0 : 0 ≤ (x2 * x2 + 79633) % 2305843009213693921 := Int.emod_nonneg _ (by decide)
      have z1 : (x2 * x2 + 79633) % 2305843009213693921 < 2305843009213693921 := Int.emod_lt_of_pos _ (by decide)
      dsimp only
      generalize (x2 * x2 + 79633) % 2305843009213693921 = x3 at z0 z1 ⊢
      refine ⟨.int x3, rfl, .int x3, rfl, x3, x3, rfl, rfl, .inl ⟨by omega, by omega⟩, _, _, rfl, rfl, (show (0 : Int) < 2305843009213693951 by decide), ?_⟩
      have w0 : 0 ≤ (x3 * x3) % 2305843009213693951 := Int.emod_nonneg _ (by decide)
      dsimp only
      generalize (x3 * x3) % 2305843009213693951 = x4 at w0 ⊢
      exact ⟨.int x4, rfl, x4, 512, rfl, rfl, ⟨by decide, by decide⟩, .int m, rfl, _, m, rfl, rfl, (show (0 : Int) < m by omega), fin x4 w0⟩
end
end Rw

namespace Rw
open PySem PySem.Spec PyProof.Rows L2
theorem atI_of {α : Type} {xs : List α} {i : Int} {v : α} (h0 : 0 ≤ i) (h : xs[i.toNat]? = some v) : atI xs i = some v := by
  have hl := (List.getElem?_eq_some_iff.mp h).1
  unfold atI
  rw [ixN_at h0 (by omega)]
  exact h
theorem Deck.at {H : Hp} {D C R : Addr} {b : Int} (x : Deck H D C R b) : (∃ o, H D = some o) ∧ (∃ o, H C = some o) ∧ ∃ o, H R = some o := by
  obtain ⟨⟨ns, rs, c, e1, e2, e3, r⟩, _⟩ := x
  exact ⟨⟨_, e1⟩, ⟨_, e2⟩, ⟨_, e3⟩⟩
theorem Keep.free {H H' : Hp} {D C R p : Addr} {b : Int} (k : Keep [D, R] H H') (x : Deck H' D C R b) (n : H' p = none) : H p = none := by
  cases hq : H p with
  | none => rfl
  | some o =>
    have nd : p ∉ [D, R] := fun m => by
      obtain ⟨n1, n2, n3⟩ := x.ne n
      rcases List.mem_cons.mp m with m | m
      · exact n1 m
      · exact n3 (List.mem_singleton.mp m)
    rw [k p o hq nd] at n; cases n
theorem notDR {D R p : Addr} (h1 : p ≠ D) (h2 : p ≠ R) : p ∉ [D, R] := fun m => by
  rcases List.mem_cons.mp m with m | m
  · exact h1 m
  · exact h2 (List.mem_singleton.mp m)
section
variable {P : Program} {w : World} {K : PySem.W.Frag} {mg : Str → Option Value} {base : Heap}
abbrev sOne : Stmt := topS 32
abbrev sEdge : Stmt := topS 33
abbrev sSpots : Stmt := topS 35
abbrev sLength : Stmt := topS 36
theorem scOne : FnScope ["_law_deck_here", "_law_some"] ["_law_deck_here", "_law_some"] (defScope sOne) := ⟨rfl, rfl, rfl, by decide +kernel, rfl, by decide +kernel, by decide +kernel⟩
theorem scEdge : FnScope ["_law_deck_here", "_law_many"] ["_law_deck_here", "_law_many"] (defScope sEdge) := ⟨rfl, rfl, rfl, by decide +kernel, rfl, by decide +kernel, by decide +kernel⟩
theorem scSpots : FnScope ["_law_deck_here", "_law_low", "_law_high", "_law_many", "_law_k"] ["_law_deck_here", "_law_low", "_law_high", "_law_many"] (defScope sSpots) := ⟨rfl, rfl, rfl, by decide +kernel, rfl, by decide +kernel, by decide +kernel⟩
theorem scLength : FnScope ["_law_deck_here", "_law_far", "_law_some"] ["_law_deck_here", "_law_far"] (defScope sLength) := ⟨rfl, rfl, rfl, by decide +kernel, rfl, by decide +kernel, by decide +kernel⟩
def spOne : Sp := fun vs H Q _ => ∃ (D C R l : Addr) (b : Int) (xs : List V), vs = [.ref D, .ref l] ∧ H l = some (.lst xs) ∧ 1 ≤ xs.length ∧ xs.length ≤ 1000 ∧ l ≠ D ∧ l ≠ R ∧ Deck H D C R b ∧ b ≤ 1000000000 ∧
  ∀ H' (i : Nat) x, Keep [D, R] H H' → Deck H' D C R (b + 1) → xs[i]? = some x → Q x H'
theorem ok_one (h : Has K mg "_law_one" sOne) (B : Blt mg) (CN : Can P w K mg base "_law_next" ["_law_deck_here", "_law_many"] 1 spNext) : Can P w K mg base "_law_one" ["_law_deck_here", "_law_some"] 2 spOne := by
  obtain ⟨f, fd, F, g⟩ := h
  refine ⟨f, fd, F.ok (k := 1) scOne (fun vs H Q E h => ?_) (fun cdv A outer s H vs Q E hr h => ?_), g, F.kp, F.binds fun _ _ _ _ _ _ us hl => match us, hl with | [_, _], _ => rfl⟩
  · obtain ⟨D, C, R, l, b, xs, rfl, _⟩ := h
    rfl
  · obtain ⟨D, C, R, l, b, xs, rfl, el, l1, l2, nD, nR, dk, hb, q⟩ := h
    refine ⟨_, pss_one (ps_ret (pe_ix ix_list (pv 1) (pe_can CN hr (by rfl) (pa_cons (pv 0) (pa_cons (pe_callB call_len_seq (by rfl) B.len_ PySem.boot_len (pa_cons (pv 1) pa_nil)) pa_nil))) (fun _ _ => rfl))), ?_⟩
    refine ⟨.ref l, rfl, .ref D, rfl, .ref l, rfl, l, xs, rfl, .inl (SqL.of el), D, C, R, b, _, rfl, by omega, by omega, dk, hb, fun H' k kp dk' k0 k1 => ?_⟩
    have g1 : xs[k.toNat]? = some (xs[k.toNat]'(by omega)) := List.getElem?_eq_getElem (by omega)
    refine ⟨l, xs, k, _, rfl, rfl, SqL.of (kp l _ el (notDR nD nR)), atI_of k0 g1, q H' k.toNat _ kp dk' g1⟩
def spEdge : Sp := fun vs H Q _ => ∃ (D C R : Addr) (b m : Int), vs = [.ref D, .int m] ∧ 1 ≤ m ∧ m ≤ 100000000000000 ∧ Deck H D C R b ∧ b ≤ 900000000 ∧
  ∀ H' k, Keep [D, R] H H' → Deck H' D C R (b + 3) → 0 ≤ k → k < m → Q (.int k) H'
theorem ok_edge (h : Has K mg "_law_edge" sEdge) (B : Blt mg) (CN : Can P w K mg base "_law_next" ["_law_deck_here", "_law_many"] 1 spNext) (CO : Can P w K mg base "_law_one" ["_law_deck_here", "_law_some"] 2 spOne) :
    Can P w K mg base "_law_edge" ["_law_deck_here", "_law_many"] 3 spEdge := by
  obtain ⟨f, fd, F, g⟩ := h
  refine ⟨f, fd, F.ok (k := 2) scEdge (fun vs H Q E h => ?_) (fun cdv A outer s H vs Q E hr h => ?_), g, F.kp, F.binds fun _ _ _ _ _ _ us hl => match us, hl with | [_, _], _ => rfl⟩
  · obtain ⟨D, C, R, b, m, rfl, _⟩ := h
    rfl
  · obtain ⟨D, C, R, b, m, rfl, m1, m2, dk, hb, q⟩ := h
    refine ⟨_, pss_one (ps_ret (pe_can CO hr (by rfl) (pa_cons (pv 0) (pa_cons (pe_lst (pa_cons pe_int (pa_cons (pe_op op_sub (pv 1) pe_int) (pa_cons (pe_can CN (hr.mono (by decide)) (by rfl) (pa_cons (pv 0) (pa_cons (pv 1) pa_nil)))
      (pa_cons (pe_can CN (hr.mono (by decide)) (by rfl) (pa_cons (pv 0) (pa_cons (pe_callB (call_min2 rfl) (by rfl) B.min_ boot_min (pa_cons (pv 1) (pa_cons pe_int pa_nil))) pa_nil))) pa_nil))))) pa_nil)))), ?_⟩
    refine ⟨.ref D, rfl, .int m, rfl, m, 1, rfl, rfl, .ref D, rfl, .int m, rfl, D, C, R, b, m, rfl, m1, m2, dk, by omega, fun H1 k1 kp1 dk1 a1 a2 => ?_⟩
    refine ⟨.ref D, rfl, .int m, rfl, m, 4, rfl, D, C, R, b + 1, _, rfl, by split <;> omega, by split <;> omega, dk1, by omega, fun H2 k2 kp2 dk2 a3 a4 => ?_⟩
    refine ⟨show 4 ≤ sizeLine by decide, fun l nl => ?_⟩
    obtain ⟨n1, n2, n3⟩ := dk2.ne nl
    refine ⟨D, C, R, l, b + 1 + 1, _, rfl, upd_same, show 1 ≤ 4 by decide, show 4 ≤ 1000 by decide, n1, n3, dk2.new nl, by omega, fun H3 i x kp3 dk3 hx => ?_⟩
    have kp : Keep [D, R] H H3 := kp1.trans (kp2.trans ((Keep.new nl).trans kp3))
    have dk3' : Deck H3 D C R (b + 3) := dk3.mono (by omega)
    match i, hx with
    | 0, hx => cases hx; exact q H3 0 kp dk3' (by decide) (by omega)
    | 1, hx => cases hx; exact q H3 (m - 1) kp dk3' (by omega) (by omega)
    | 2, hx => cases hx; exact q H3 k1 kp dk3' a1 a2
    | 3, hx =>
      cases hx
      refine q H3 k2 kp dk3' a3 ?_
      revert a4; split <;> omega
    | i + 4, hx => exact nomatch hx
def spSpots : Sp := fun vs H Q _ => ∃ (D C R : Addr) (b lo hi m : Int), vs = [.ref D, .int lo, .int hi, .int m] ∧ hi - lo + 1 ≤ 100000000000000 ∧ 0 ≤ m ∧ m ≤ 10 ∧ Deck H D C R b ∧ b ≤ 800000000 ∧
  ∀ H' (p : Addr) (ns : List Int), Keep [D, R] H H' → Deck H' D C R (b + 3 * m) → H p = none → H' p = some (.lst (ns.map V.int)) → ns.Pairwise (· < ·) → (∀ n ∈ ns, lo ≤ n ∧ n ≤ hi) → (ns.length : Int) ≤ m → Q (.ref p) H'
theorem ok_spots (h : Has K mg "_law_spots" sSpots) (B : Blt mg) (CE : Can P w K mg base "_law_edge" ["_law_deck_here", "_law_many"] 3 spEdge) : Can P w K mg base "_law_spots" ["_law_deck_here", "_law_low", "_law_high", "_law_many"] 4 spSpots := by
  obtain ⟨f, fd, F, g⟩ := h
  refine ⟨f, fd, F.ok (k := 3) scSpots (fun vs H Q E h => ?_) (fun cdv A outer s H vs Q E hr h => ?_), g, F.kp, F.binds fun _ _ _ _ _ _ us hl => match us, hl with | [_, _, _, _], _ => rfl⟩
  · obtain ⟨D, C, R, b, lo, hi, m, rfl, _⟩ := h
    rfl
  · obtain ⟨D, C, R, b, lo, hi, m, rfl, hh, m0, m1, dk, hb, q⟩ := h
    refine ⟨_, pss_cons (ps_if (pt_cmpR op_lt (pv 2) (pv 1) (nomark _)) (pss_one (ps_ret (pe_lst pa_nil))) pss_nil)
      (pss_one (ps_ret (pe_callB (cr_sortedSet rfl) (by rfl) B.sorted_ boot_sorted (pa_cons (pe_callTy (cr_setL rfl) (by rfl) B.set_ boot_set (pa_cons
        (pe_lc (own := [("_law_k", 4)]) (g := gName 4) (tt := tYes) rfl scSpots.nd (pi_range1 (by rfl) B.range_ (pa_cons (pv 3) pa_nil)) (blkOk_by (N := ["_law_deck_here", "_law_low", "_law_high", "_law_many", "_law_k"]) (sc := defScope sSpots) (by decide +kernel))
          (fun _ _ _ _ _ => pg_name (i := 4) scSpots.nd rfl (Or.inl rfl)) (fun _ _ _ _ _ => pts_nil) (fun _ _ _ _ _ => pe_op op_add (pv 1) (pe_can CE hr (by rfl) (pa_cons (pv 0) (pa_cons (pe_op op_add (pe_op op_sub (pv 2) (pv 1)) pe_int) pa_nil))))) pa_nil)) pa_nil)))), ?_⟩
    refine ⟨.int hi, rfl, .int lo, rfl, hi, lo, rfl, rfl, _, rfl, ite2 (fun e => ?_) (fun e => ?_)⟩
    · refine ⟨show 0 ≤ sizeLine by decide, fun p np => ?_⟩
      exact q _ p [] (Keep.new np) ((dk.new np).mono (by omega)) np upd_same List.Pairwise.nil (fun _ z => absurd z List.not_mem_nil) (by show ((0 : Nat) : Int) ≤ m; omega)
    · have hle : lo ≤ hi := by
        have h2 : ¬ (hi < lo) := fun z => e (decide_eq_true z)
        omega
      refine ⟨.int m, rfl, m, rfl, by omega, by omega, fun L nL => ?_⟩
      refine lc_range (lo := 0) (n := m.toNat) (fun i G => Keep [D, R] H G ∧ Deck G D C R (b + 3 * i) ∧ L ≠ D ∧ L ≠ R ∧ ∃ cs : List Int, cs.length = i ∧ (∀ n ∈ cs, lo ≤ n ∧ n ≤ hi) ∧ G L = some (.lst (cs.map V.int)))
        ⟨Keep.new nL, (dk.new nL).mono (by omega), (dk.ne nL).1, (dk.ne nL).2.2, [], rfl, fun _ z => absurd z List.not_mem_nil, upd_same⟩ (fun i G hi' p => ?_) (fun G p => ?_)
      · obtain ⟨k1, d1, n1, n2, cs, l1, c1, e1⟩ := p
        refine ⟨rfl, .int lo, rfl, .ref D, rfl, .int hi, rfl, .int lo, rfl, hi, lo, rfl, rfl, _, 1, rfl, rfl, D, C, R, _, _, rfl, by omega, hh, d1, by omega, fun G2 k kp dk2 a1 a2 => ?_⟩
        have e2 := kp L _ e1 (notDR n1 n2)
        refine ⟨lo, k, rfl, rfl, cs.map V.int, e2, by rw [List.length_map, l1]; exact small1000 (by omega), ?_, ?_, n1, n2, cs ++ [lo + k], by rw [List.length_append, l1]; rfl, ?_, by rw [upd_same, List.map_append]; rfl⟩
        · exact (k1.trans kp).upd nL
        · have nLC : L ≠ C := by
            obtain ⟨oc, ec⟩ := dk.at.2.1
            exact (ne_of_none ec nL).symm
          exact (dk2.other n1 nLC n2).mono (by have : ((i + 1 : Nat) : Int) = (i : Int) + 1 := by omega
                                               omega)
        · intro z hz
          rcases List.mem_append.mp hz with hz | hz
          · exact c1 z hz
          · rw [List.mem_singleton.mp hz]; omega
      · obtain ⟨k1, d1, n1, n2, cs, l1, c1, e1⟩ := p
        refine ⟨L, cs, rfl, SqL.of e1, by omega, fun sa c na hc => ?_⟩
        refine ⟨sa, _, c, rfl, upd_same, by omega, fun ns p pw mem ln np => ?_⟩
        have k2 : Keep [D, R] H (upd G sa (SetO w sa (fun j => decide (j ∈ cs)) c)) := k1.trans (Keep.new na)
        have d2 : Deck (upd G sa (SetO w sa (fun j => decide (j ∈ cs)) c)) D C R (b + 3 * (m.toNat : Nat)) := d1.new na
        refine q _ p ns (k2.trans (Keep.new np)) ((d2.new np).mono (by omega)) (k2.free d2 np) upd_same pw (fun n hn => ?_) (by omega)
        exact c1 n (of_decide_eq_true ((mem n).mp hn))
def spLength : Sp := fun vs H Q _ => ∃ (D C R : Addr) (b far : Int), vs = [.ref D, .int far] ∧ Deck H D C R b ∧ b ≤ 800000000 ∧
  ∀ H' k, Keep [D, R] H H' → Deck H' D C R (b + 6) → 1 ≤ k → k ≤ 1000000000000 → (far ≤ 0 → k ≤ 4) → Q (.int k) H'
theorem ok_length (h : Has K mg "_law_length" sLength) (CN : Can P w K mg base "_law_next" ["_law_deck_here", "_law_many"] 1 spNext) (CO : Can P w K mg base "_law_one" ["_law_deck_here", "_law_some"] 2 spOne) :
    Can P w K mg base "_law_length" ["_law_deck_here", "_law_far"] 3 spLength := by
  obtain ⟨f, fd, F, g⟩ := h
  refine ⟨f, fd, F.ok (k := 2) scLength (fun vs H Q E h => ?_) (fun cdv A outer s H vs Q E hr h => ?_), g, F.kp, F.binds fun _ _ _ _ _ _ us hl => match us, hl with | [_, _], _ => rfl⟩
  · obtain ⟨D, C, R, b, far, rfl, _⟩ := h
    rfl
  · obtain ⟨D, C, R, b, far, rfl, dk, hb, q⟩ := h
    refine ⟨_, pss_cons (ps_set (i := 2) scLength.nd rfl (.inl rfl) (pe_lst (pa_cons pe_int (pa_cons (pe_op op_add pe_int (pe_can CN (hr.mono (by decide)) (by rfl) (pa_cons (pv 0) (pa_cons pe_int pa_nil)))) (pa_cons (pe_op op_add pe_int (pe_can CN (hr.mono (by decide)) (by rfl) (pa_cons (pv 0) (pa_cons pe_int pa_nil)))) pa_nil)))))
      (pss_cons (ps_if (pt_cmpR op_gt (pv 1) pe_int (nomark _))
        (pss_one (ps_set (i := 2) scLength.nd rfl (.inl rfl) (pe_op op_cat (pv 2) (pe_lst (pa_cons (pe_op op_add pe_int (pe_can CN (hr.mono (by decide)) (by rfl) (pa_cons (pv 0) (pa_cons pe_int pa_nil))))
          (pa_cons (pe_op op_sub (pe_op op_pow pe_int pe_int) (pe_can CN (hr.mono (by decide)) (by rfl) (pa_cons (pv 0) (pa_cons pe_int pa_nil))))
          (pa_cons (pe_op op_add pe_int (pe_can CN (hr.mono (by decide)) (by rfl) (pa_cons (pv 0) (pa_cons (pe_op op_pow pe_int pe_int) pa_nil)))) pa_nil)))))))
        pss_nil)
      (pss_one (ps_ret (pe_can CO hr (by rfl) (pa_cons (pv 0) (pa_cons (pv 2) pa_nil)))))), ?_⟩
    refine ⟨.ref D, rfl, D, C, R, b, 3, rfl, by decide, by decide, dk, by omega, fun H1 k1 kp1 dk1 a1 a2 => ?_⟩
    refine ⟨1, k1, rfl, rfl, .ref D, rfl, D, C, R, b + 1, 3, rfl, by decide, by decide, dk1, by omega, fun H2 k2 kp2 dk2 a3 a4 => ?_⟩
    refine ⟨2, k2, rfl, rfl, show 3 ≤ sizeLine by decide, fun l nl => ?_⟩
    obtain ⟨n1, n2, n3⟩ := dk2.ne nl
    have kp3 : Keep [D, R] H (upd H2 l (.lst [.int 1, .int (1 + k1), .int (2 + k2)])) := kp1.trans (kp2.trans (Keep.new nl))
    have dk3 : Deck (upd H2 l (.lst [.int 1, .int (1 + k1), .int (2 + k2)])) D C R (b + 1 + 1) := dk2.new nl
    refine ⟨.int far, rfl, far, 0, rfl, rfl, _, rfl, ite2 (fun e => ?_) (fun e => ?_)⟩
    · refine ⟨.ref l, rfl, .ref D, rfl, D, C, R, _, 12, rfl, by decide, by decide, dk3, by omega, fun H4 k4 kp4 dk4 a5 a6 => ?_⟩
      refine ⟨2, k4, rfl, rfl, 10, 12, rfl, rfl, ⟨by decide, by decide, by decide⟩, .ref D, rfl, D, C, R, _, 3, rfl, by decide, by decide, dk4, by omega, fun H5 k5 kp5 dk5 a7 a8 => ?_⟩
      refine ⟨_, k5, rfl, rfl, .ref D, rfl, 10, 12, rfl, rfl, ⟨by decide, by decide, by decide⟩, D, C, R, _, _, rfl, by decide, by decide, dk5, by omega, fun H6 k6 kp6 dk6 a9 a10 => ?_⟩
      refine ⟨1, k6, rfl, rfl, show 3 ≤ sizeLine by decide, fun l2 nl2 => ?_⟩
      have kp7 := kp4.trans (kp5.trans kp6)
      have el6 := kp7 l _ upd_same (notDR n1 n3)
      refine ⟨l, l2, [.int 1, .int (1 + k1), .int (2 + k2)], _, rfl, rfl, by rw [upd_ne (ne_of_none el6 nl2)]; exact el6, upd_same, show 6 ≤ sizeLine by decide, fun l3 nl3 => ?_⟩
      have kp8 := kp3.trans (kp7.trans (Keep.new (av := [D, R]) (o := .lst [.int (2 + k4), .int ((10 : Int) ^ (12 : Int).toNat - k5), .int (1 + k6)]) nl2))
      have dk8 := dk6.new (o := .lst [.int (2 + k4), .int ((10 : Int) ^ (12 : Int).toNat - k5), .int (1 + k6)]) nl2
      obtain ⟨m1, m2, m3⟩ := dk8.ne nl3
      refine ⟨.ref D, rfl, .ref l3, rfl, D, C, R, l3, _, _, rfl, upd_same, show 1 ≤ 6 by decide, show 6 ≤ 1000 by decide, m1, m3, dk8.new nl3, by omega, fun H9 i x kp9 dk9 hx => ?_⟩
      have kp : Keep [D, R] H H9 := kp8.trans ((Keep.new nl3).trans kp9)
      have dkE : Deck H9 D C R (b + 6) := dk9.mono (by omega)
      have t12 : ((10 : Int) ^ (12 : Int).toNat) = 1000000000000 := by decide
      rw [t12] at hx a10
      match i, hx with
      | 0, hx => cases hx; exact q H9 _ kp dkE (by decide) (by decide) (fun z => by have := of_decide_eq_true e; omega)
      | 1, hx => cases hx; exact q H9 _ kp dkE (by omega) (by omega) (fun z => by have := of_decide_eq_true e; omega)
      | 2, hx => cases hx; exact q H9 _ kp dkE (by omega) (by omega) (fun z => by have := of_decide_eq_true e; omega)
      | 3, hx => cases hx; exact q H9 _ kp dkE (by omega) (by omega) (fun z => by have := of_decide_eq_true e; omega)
      | 4, hx => cases hx; exact q H9 _ kp dkE (by omega) (by omega) (fun z => by have := of_decide_eq_true e; omega)
      | 5, hx => cases hx; exact q H9 _ kp dkE (by omega) (by omega) (fun z => by have := of_decide_eq_true e; omega)
      | i + 6, hx => exact nomatch hx
    · refine ⟨.ref D, rfl, .ref l, rfl, D, C, R, l, _, _, rfl, upd_same, show 1 ≤ 3 by decide, show 3 ≤ 1000 by decide, n1, n3, dk3, by omega, fun H9 i x kp9 dk9 hx => ?_⟩
      have kp : Keep [D, R] H H9 := kp3.trans kp9
      have dkE : Deck H9 D C R (b + 6) := dk9.mono (by omega)
      match i, hx with
      | 0, hx => cases hx; exact q H9 _ kp dkE (by decide) (by decide) (fun _ => by omega)
      | 1, hx => cases hx; exact q H9 _ kp dkE (by omega) (by omega) (fun _ => by omega)
      | 2, hx => cases hx; exact q H9 _ kp dkE (by omega) (by omega) (fun _ => by omega)
      | i + 3, hx => exact nomatch hx
end
end Rw

namespace Rw
open PySem PySem.Spec PyProof.Rows L2
/-! addresses that are tracked -/
def Tr (av : List Addr) (H : Hp) : Prop := ∀ a ∈ av, ∃ o, H a = some o
theorem Tr.not {av : List Addr} {H : Hp} {p : Addr} (t : Tr av H) (n : H p = none) : p ∉ av := fun m => by
  obtain ⟨o, e⟩ := t p m
  rw [n] at e; cases e
theorem Tr.upd {av : List Addr} {H : Hp} {p : Addr} {o : HO} (t : Tr av H) : Tr av (upd H p o) := fun a m => by
  by_cases e : a = p
  · subst e; exact ⟨o, upd_same⟩
  · obtain ⟨u, z⟩ := t a m
    exact ⟨u, by rw [upd_ne e]; exact z⟩
theorem Tr.cons {av : List Addr} {H : Hp} {p : Addr} {o : HO} (t : Tr av H) (e : H p = some o) : Tr (p :: av) H := fun a m => by
  rcases List.mem_cons.mp m with m | m
  · rw [m]; exact ⟨o, e⟩
  · exact t a m
theorem Tr.keep {av : List Addr} {H H' : Hp} {D C R : Addr} {b : Int} (t : Tr av H) (k : Keep [D, R] H H') (d : Deck H' D C R b) : Tr av H' := fun a m => by
  cases e : H' a with
  | some o => exact ⟨o, rfl⟩
  | none =>
    obtain ⟨o, z⟩ := t a m
    rw [k.free d e] at z; cases z
theorem ix_listK {X : Cx} {K : PySem.W.Frag} (h : X.K = K) : IxR X (rIxL K) := by subst h; exact ix_list
theorem pick4 (a b c d : Int) (n : Nat) (h : n < 4) : ∃ j, [V.int a, V.int b, V.int c, V.int d][n]? = some (.int j) ∧ (j = a ∨ j = b ∨ j = c ∨ j = d) := by
  match n, h with
  | 0, _ => exact ⟨a, rfl, .inl rfl⟩
  | 1, _ => exact ⟨b, rfl, .inr (.inl rfl)⟩
  | 2, _ => exact ⟨c, rfl, .inr (.inr (.inl rfl))⟩
  | 3, _ => exact ⟨d, rfl, .inr (.inr (.inr rfl))⟩
/-! ### a pipe, by data -/
def prD (p : Int × Int) : PyData := .tuple [.int p.1, .int p.2]
def pipeD (x y l : Int) (na fl : List (Int × Int)) : PyData := .tuple [.int x, .int y, .int l, .tuple (na.map prD), .tuple (fl.map prD)]
structure Fit (l : Int) (na fl : List (Int × Int)) : Prop where
  l1 : 1 ≤ l
  l2 : l ≤ 1000000000000
  nup : (na.map (·.1)).Pairwise (· < ·)
  nin : ∀ p ∈ na, 1 ≤ p.1 ∧ p.1 ≤ l - 1 ∧ 1 ≤ p.2 ∧ p.2 ≤ 1000000
  fup : (fl.map (·.1)).Pairwise (· < ·)
  fin : ∀ p ∈ fl, 0 ≤ p.1 ∧ p.1 ≤ l - 1 ∧ (p.2 = 1 ∨ p.2 = -1)
  nle : na.length ≤ 3
  fle : fl.length ≤ 3
section
variable {P : Program} {w : World} {K : PySem.W.Frag} {mg : Str → Option Value} {base : Heap}
abbrev sPipe : Stmt := topS 37
abbrev nPipe : List Str := ["_law_deck_here", "_law_one_here", "_law_other", "_law_left", "_law_far", "_law_length_here", "_law_spots_here", "_law_hung", "_law_narrows", "_law_at"]
theorem scPipe : FnScope nPipe ["_law_deck_here", "_law_one_here", "_law_other", "_law_left", "_law_far"] (defScope sPipe) := ⟨rfl, rfl, rfl, by decide +kernel, rfl, by decide +kernel, by decide +kernel⟩
def spPipe : Sp := fun vs H Q _ => ∃ (D C R L : Addr) (b x y l0 l1 far : Int) (av : List Addr), vs = [.ref D, .int x, .int y, .ref L, .int far] ∧ H L = some (.lst [.int l0, .int l1]) ∧ 0 ≤ l0 ∧ 0 ≤ l1 ∧ l0 ≤ 100 ∧ l1 ≤ 100 ∧
  L ≠ D ∧ L ≠ C ∧ L ≠ R ∧ (far = 0 ∨ far = 1) ∧ Deck H D C R b ∧ b ≤ 700000000 ∧ Tr av H ∧ D ∈ av ∧ R ∈ av ∧ L ∈ av ∧
  ∀ H' (p : Addr) (l : Int) (na fl : List (Int × Int)), Keep [D, R, L] H H' → Deck H' D C R (b + 60) → H' L = some (.lst [.int (l0 - na.length), .int (l1 - fl.length)]) → (na.length : Int) ≤ l0 → (fl.length : Int) ≤ l1 →
    Fit l na fl → (far = 0 → l ≤ 4) → Dt av H' (.ref p) (pipeD x y l na fl) → Tr av H' → Q (.ref p) H'
theorem ok_pipe (h : Has K mg "_law_pipe" sPipe) (B : Blt mg) (CN : Can P w K mg base "_law_next" ["_law_deck_here", "_law_many"] 1 spNext) (CE : Can P w K mg base "_law_edge" ["_law_deck_here", "_law_many"] 3 spEdge)
    (CS : Can P w K mg base "_law_spots" ["_law_deck_here", "_law_low", "_law_high", "_law_many"] 4 spSpots) (CL : Can P w K mg base "_law_length" ["_law_deck_here", "_law_far"] 3 spLength) :
    Can P w K mg base "_law_pipe" ["_law_deck_here", "_law_one_here", "_law_other", "_law_left", "_law_far"] 5 spPipe := by
  obtain ⟨f, fd, F, g⟩ := h
  refine ⟨f, fd, F.ok (k := 4) scPipe (fun vs H Q E h => ?_) (fun cdv A outer s H vs Q E hr h => ?_), g, F.kp, F.binds fun _ _ _ _ _ _ us hl => match us, hl with | [_, _, _, _, _], _ => rfl⟩
  · obtain ⟨D, C, R, L, b, x, y, l0, l1, far, av, rfl, _⟩ := h
    rfl
  · obtain ⟨D, C, R, L, b, x, y, l0, l1, far, av, rfl, eL, p0, p1, p2, p3, nLD, nLC, nLR, hf, dk, hb, tr, mD, mR, mL, q⟩ := h
    refine ⟨_, pss_cons (ps_set (i := 5) scPipe.nd rfl (.inl rfl) (pe_can CL (hr.mono (by decide)) (by rfl) (pa_cons (pv 0) (pa_cons (pv 4) pa_nil))))
      (pss_cons (ps_set (i := 6) scPipe.nd rfl (.inl rfl) (pe_can CS hr (by rfl) (pa_cons (pv 0) (pa_cons pe_int (pa_cons (pe_op op_sub (pv 5) pe_int) (pa_cons (pe_callB (call_min2 rfl) (by rfl) B.min_ boot_min (pa_cons (pe_ix ix_list (pv 3) pe_int (fun _ _ => rfl)) (pa_cons
          (pe_ix ix_list (pe_lst (pa_cons pe_int (pa_cons pe_int (pa_cons pe_int (pa_cons pe_int pa_nil))))) (pe_can CN (hr.mono (by decide)) (by rfl) (pa_cons (pv 0) (pa_cons pe_int pa_nil))) (fun _ _ => rfl)) pa_nil))) pa_nil))))))
      (pss_cons (ps_set (i := 7) scPipe.nd rfl (.inl rfl) (pe_can CS hr (by rfl) (pa_cons (pv 0) (pa_cons pe_int (pa_cons (pe_op op_sub (pv 5) pe_int) (pa_cons (pe_callB (call_min2 rfl) (by rfl) B.min_ boot_min (pa_cons (pe_ix ix_list (pv 3) pe_int (fun _ _ => rfl)) (pa_cons
          (pe_ix ix_list (pe_lst (pa_cons pe_int (pa_cons pe_int (pa_cons pe_int (pa_cons pe_int pa_nil))))) (pe_can CN (hr.mono (by decide)) (by rfl) (pa_cons (pv 0) (pa_cons pe_int pa_nil))) (fun _ _ => rfl)) pa_nil))) pa_nil))))))
      (pss_cons (ps_asg (pe_op op_sub (pe_ix ix_list (pv 3) pe_int (fun _ _ => rfl)) (pe_callB call_len_seq (by rfl) B.len_ PySem.boot_len (pa_cons (pv 6) pa_nil))) (pg_sub (pv 3) pe_int set_list))
      (pss_cons (ps_asg (pe_op op_sub (pe_ix ix_list (pv 3) pe_int (fun _ _ => rfl)) (pe_callB call_len_seq (by rfl) B.len_ PySem.boot_len (pa_cons (pv 7) pa_nil))) (pg_sub (pv 3) pe_int set_list))
      (pss_cons (ps_set (i := 8) scPipe.nd rfl (.inl rfl) (pe_callTy call_tuple_of (by rfl) B.tuple_ boot_tuple (pa_cons
        (pe_lc (own := [("_law_at", 9)]) (g := gName 9) (tt := tYes) rfl scPipe.nd (pi_list (pv 6)) (blkOk_by (N := nPipe) (sc := defScope sPipe) (by decide +kernel))
          (fun _ _ _ _ _ => pg_name (i := 9) scPipe.nd rfl (Or.inl rfl)) (fun _ _ _ _ _ => pts_nil) (fun _ _ _ _ _ => pe_tup (pa_cons (pv 9) (pa_cons (pe_op op_add pe_int (pe_can CE (hr.mono (by decide)) (by rfl) (pa_cons (pv 0) (pa_cons
            (pe_ix (ix_listK (K := K) rfl) (pe_lst (pa_cons pe_int (pa_cons (pe_op op_pow pe_int pe_int) pa_nil))) (pv 4) (fun _ _ => rfl)) pa_nil)))) pa_nil)))) pa_nil)))
      (pss_one (ps_ret (pe_tup (pa_cons (pv 1) (pa_cons (pv 2) (pa_cons (pv 5) (pa_cons (pv 8) (pa_cons (pe_callTy call_tuple_of (by rfl) B.tuple_ boot_tuple (pa_cons
        (pe_lc (own := [("_law_at", 9)]) (g := gName 9) (tt := tYes) rfl scPipe.nd (pi_list (pv 7)) (blkOk_by (N := nPipe) (sc := defScope sPipe) (by decide +kernel))
          (fun _ _ _ _ _ => pg_name (i := 9) scPipe.nd rfl (Or.inl rfl)) (fun _ _ _ _ _ => pts_nil) (fun _ _ _ _ _ => pe_tup (pa_cons (pv 9) (pa_cons (pe_op op_sub pe_int (pe_op op_mul pe_int (pe_can CN (hr.mono (by decide)) (by rfl) (pa_cons (pv 0) (pa_cons pe_int pa_nil))))) pa_nil)))) pa_nil)) pa_nil))))))))))))), ?_⟩
    -- the length
    refine ⟨.ref D, rfl, .int far, rfl, D, C, R, b, far, rfl, dk, by omega, fun H1 l kp1 dk1 hl1 hl2 hl4 => ?_⟩
    have eL1 := kp1 L _ eL (notDR nLD nLR)
    -- the narrow places
    refine ⟨.ref D, rfl, .int l, rfl, l, 1, rfl, rfl, .ref L, rfl, L, _, 0, .int l0, rfl, rfl, SqL.of eL1, atI_nat (j := 0) rfl, show 4 ≤ sizeLine by decide, fun a4 n4 => ?_⟩
    refine ⟨.ref D, rfl, D, C, R, b + 6, 4, rfl, by decide, by decide, dk1.new n4, by omega, fun H2 k2 kp2 dk2 a1 a2 => ?_⟩
    obtain ⟨n41, n42, n43⟩ := dk1.ne n4
    obtain ⟨j2, g2, hj2⟩ := pick4 0 0 1 3 k2.toNat (by omega)
    refine ⟨a4, _, k2, .int j2, rfl, rfl, SqL.of (kp2 a4 _ upd_same (notDR n41 n43)), atI_of a1 g2, l0, j2, rfl, ?_⟩
    have kA : Keep [D, R] H H2 := kp1.trans ((Keep.new n4).trans kp2)
    have eL2 := kA L _ eL (notDR nLD nLR)
    refine ⟨D, C, R, b + 6 + 1, 1, l - 1, _, rfl, by omega, by split <;> omega, by split <;> omega, dk2, by omega, fun H3 sa ns kp3 dk3 nsa esa pw1 in1 ln1 => ?_⟩
    have dk3' : Deck H3 D C R (b + 17) := dk3.mono (by revert ln1; split <;> omega)
    have ln1a : ns.length ≤ 3 := by revert ln1; split <;> omega
    have ln1b : (ns.length : Int) ≤ l0 := by revert ln1; split <;> omega
    have kB : Keep [D, R] H H3 := kA.trans kp3
    have eL3 := kB L _ eL (notDR nLD nLR)
    -- the flaps
    refine ⟨.ref D, rfl, .int l, rfl, l, 1, rfl, rfl, .ref L, rfl, L, _, 1, .int l1, rfl, rfl, SqL.of eL3, atI_nat (j := 1) rfl, show 4 ≤ sizeLine by decide, fun a5 n5 => ?_⟩
    refine ⟨.ref D, rfl, D, C, R, b + 17, 4, rfl, by decide, by decide, dk3'.new n5, by omega, fun H4 k4 kp4 dk4 a3 a4' => ?_⟩
    obtain ⟨n51, n52, n53⟩ := dk3'.ne n5
    obtain ⟨j4, g4, hj4⟩ := pick4 0 0 1 2 k4.toNat (by omega)
    refine ⟨a5, _, k4, .int j4, rfl, rfl, SqL.of (kp4 a5 _ upd_same (notDR n51 n53)), atI_of a3 g4, l1, j4, rfl, ?_⟩
    have kC : Keep [D, R] H3 H4 := (Keep.new n5).trans kp4
    refine ⟨D, C, R, b + 17 + 1, 0, l - 1, _, rfl, by omega, by split <;> omega, by split <;> omega, dk4, by omega, fun H5 ha ms kp5 dk5 nha eha pw2 in2 ln2 => ?_⟩
    have dk5' : Deck H5 D C R (b + 24) := dk5.mono (by revert ln2; split <;> omega)
    have ln2a : ms.length ≤ 2 := by revert ln2; split <;> omega
    have ln2b : (ms.length : Int) ≤ l1 := by revert ln2; split <;> omega
    have kD : Keep [D, R] H3 H5 := kC.trans kp5
    have kE : Keep [D, R] H H5 := kB.trans kD
    have eL5 := kE L _ eL (notDR nLD nLR)
    have nsD : sa ≠ D ∧ sa ≠ R ∧ sa ≠ L ∧ sa ≠ C := by
      have z := kA.free dk2 nsa
      obtain ⟨z1, z2, z3⟩ := dk2.ne nsa
      exact ⟨z1, z3, (ne_of_none eL2 nsa).symm, z2⟩
    have esa5 := kD sa _ esa (notDR nsD.1 nsD.2.1)
    have eL4 := kC L _ eL3 (notDR nLD nLR)
    have nhD : ha ≠ D ∧ ha ≠ R ∧ ha ≠ L ∧ ha ≠ C := by
      obtain ⟨z1, z2, z3⟩ := dk4.ne nha
      exact ⟨z1, z3, (ne_of_none eL4 nha).symm, z2⟩
    -- what is left
    refine ⟨.ref L, rfl, L, _, 0, .int l0, rfl, rfl, SqL.of eL5, atI_nat (j := 0) rfl, .ref sa, rfl, sa, _, rfl, .inl (SqL.of esa5), l0, _, rfl, rfl, .ref L, rfl, L, _, 0, 0, rfl, rfl, eL5, rfl, ?_⟩
    rw [List.length_map]
    have esa6 : (upd H5 L (.lst [.int (l0 - (ns.length : Int)), .int l1])) sa = some (.lst (ns.map V.int)) := by rw [upd_ne nsD.2.2.1]; exact esa5
    have eha6 : (upd H5 L (.lst [.int (l0 - (ns.length : Int)), .int l1])) ha = some (.lst (ms.map V.int)) := by rw [upd_ne nhD.2.2.1]; exact eha
    refine ⟨.ref L, rfl, L, [.int (l0 - (ns.length : Int)), .int l1], 1, .int l1, rfl, rfl, SqL.of upd_same, atI_nat (j := 1) rfl, .ref ha, rfl, ha, _, rfl, .inl (SqL.of eha6), l1, _, rfl, rfl, .ref L, rfl, L, [.int (l0 - (ns.length : Int)), .int l1], 1, 1, rfl, rfl, upd_same, rfl, ?_⟩
    rw [List.length_map, upd_upd]
    show (_ : Prop)
    generalize hG : upd H5 L (.lst ([V.int (l0 - (ns.length : Int)), V.int l1].set 1 (V.int (l1 - (ms.length : Int))))) = G
    have eG : upd H5 L (.lst [.int (l0 - (ns.length : Int)), .int (l1 - (ms.length : Int))]) = G := hG
    have esaG : G sa = some (.lst (ns.map V.int)) := by rw [← eG, upd_ne nsD.2.2.1]; exact esa5
    have ehaG : G ha = some (.lst (ms.map V.int)) := by rw [← eG, upd_ne nhD.2.2.1]; exact eha
    have eLG : G L = some (.lst [.int (l0 - (ns.length : Int)), .int (l1 - (ms.length : Int))]) := by rw [← eG]; exact upd_same
    have dkG : Deck G D C R (b + 24) := by rw [← eG]; exact dk5'.other nLD nLC nLR
    have kG : Keep [D, R, L] H G := by
      rw [← eG]; exact (kE.mono (by intro z hz; simp only [List.mem_cons, List.not_mem_nil, or_false] at hz ⊢; rcases hz with hz | hz <;> simp [hz])).trans (Keep.put (by simp))
    have trG : Tr av G := by rw [← eG]; exact (tr.keep kE dk5').upd
    -- narrows
    refine ⟨.ref sa, rfl, sa, rfl, ⟨_, SqL.of esaG⟩, fun W nW => ?_⟩
    have nWD := dkG.ne nW
    refine lc_list (K := K) (a := sa) (xs := ns.map V.int)
      (fun i J => Keep [D, R] G J ∧ Deck J D C R (b + 24 + 3 * i) ∧ ∃ (na : List (Int × Int)) (us : List V), na.length = i ∧ na.map (·.1) = ns.take i ∧ (∀ p ∈ na, 1 ≤ p.2 ∧ p.2 ≤ 1000000) ∧ J W = some (.lst us) ∧ Dts (W :: av) J us (na.map prD))
      ⟨Keep.new nW, (dkG.new nW).mono (by omega), [], [], rfl, rfl, fun _ z => absurd z List.not_mem_nil, upd_same, .nil⟩ (fun i J _ p => SqL.of (p.1 sa _ esaG (notDR nsD.1 nsD.2.1))) (fun i v J hx p => ?_) (fun J p => ?_)
    · obtain ⟨k1, d1, na, us, e1, e2, e3, e4, e5⟩ := p
      rw [List.getElem?_map] at hx
      obtain ⟨n, hn, rfl⟩ := Option.map_eq_some_iff.mp hx
      have hi : i < ns.length := (List.getElem?_eq_some_iff.mp hn).1
      have trJ : Tr (W :: av) J := (trG.keep k1 d1).cons e4
      refine ⟨rfl, .int n, rfl, .ref D, rfl, 10, 6, rfl, rfl, ⟨by decide, by decide, by decide⟩, show 2 ≤ sizeLine by decide, fun a6 n6 => ?_⟩
      obtain ⟨n61, n62, n63⟩ := d1.ne n6
      obtain ⟨m, gm, hm1, hm2⟩ : ∃ m : Int, atI [V.int 3, V.int ((10 : Int) ^ (6 : Int).toNat)] far = some (.int m) ∧ 1 ≤ m ∧ m ≤ 1000000 := by
        rcases hf with rfl | rfl
        · exact ⟨3, atI_nat (j := 0) rfl, by decide, by decide⟩
        · exact ⟨(10 : Int) ^ (6 : Int).toNat, atI_nat (j := 1) rfl, by decide, by decide⟩
      refine ⟨.int far, rfl, a6, _, far, .int m, rfl, rfl, SqL.of upd_same, gm, D, C, R, _, m, rfl, hm1, by omega, d1.new n6, by omega, fun J2 k kp d2 b1 b2 => ?_⟩
      have k2 : Keep [D, R] J J2 := (Keep.new n6).trans kp
      have e4' := k2 W _ e4 (notDR nWD.1 nWD.2.2)
      have e5' : Dts (W :: av) J2 us (na.map prD) := e5.keep (k2.mono (by intro z hz; simp only [List.mem_cons, List.not_mem_nil, or_false] at hz; rcases hz with hz | hz <;> (subst hz; simp [mD, mR])))
      have trJ2 : Tr (W :: av) J2 := trJ.keep k2 d2
      refine ⟨1, k, rfl, rfl, show 2 ≤ sizeLine by decide, fun t nt => ?_⟩
      have ntav := trJ2.not nt
      have e6 : (upd J2 t (.tup [.int n, .int (1 + k)])) W = some (.lst us) := by rw [upd_ne (ne_of_none e4' nt)]; exact e4'
      refine ⟨us, e6, ?_, ?_, ?_, na ++ [(n, 1 + k)], us ++ [.ref t], by rw [List.length_append, e1]; rfl, ?_, ?_, upd_same, ?_⟩
      · have := e5.len
        rw [List.length_map, e1] at this
        rw [this]; exact small1000 (by omega)
      · exact (k1.trans (k2.trans (Keep.new nt))).upd nW
      · have z := d2.new (o := .tup [.int n, .int (1 + k)]) nt
        exact (z.other nWD.1 nWD.2.1 nWD.2.2).mono (by have : ((i + 1 : Nat) : Int) = (i : Int) + 1 := by omega
                                                       omega)
      · rw [List.map_append, e2, List.take_add_one, hn]; rfl
      · intro p hp
        rcases List.mem_append.mp hp with hp | hp
        · exact e3 p hp
        · rw [List.mem_singleton.mp hp]; exact ⟨by show 1 ≤ 1 + k; omega, by show 1 + k ≤ 1000000; omega⟩
      · rw [List.map_append]
        have z : Dts (W :: av) (upd J2 t (.tup [.int n, .int (1 + k)])) (us ++ [.ref t]) (na.map prD ++ [prD (n, 1 + k)]) :=
          (e5'.keep (Keep.new nt)).app (.cons (.tup ntav upd_same (.cons (.int n) (.cons (.int (1 + k)) .nil))) .nil)
        exact z.keep (Keep.put List.mem_cons_self)
    · obtain ⟨k1, d1, na, us, e1, e2, e3, e4, e5⟩ := p
      rw [List.length_map] at d1 e1 e2
      rw [List.take_of_length_le (Nat.le_refl _)] at e2
      refine ⟨W, us, rfl, .inl ⟨SqL.of e4, fun T nT => ?_⟩⟩
      have trJ : Tr (W :: av) J := (trG.keep k1 d1).cons e4
      have dT : Dt av (upd J T (.tup us)) (.ref T) (.tuple (na.map prD)) :=
        .tup (fun m => trJ.not nT (List.mem_cons_of_mem _ m)) upd_same ((e5.keep (Keep.new nT)).less fun a m => List.mem_cons_of_mem _ m)
      have k2 : Keep [D, R] G (upd J T (.tup us)) := k1.trans (Keep.new nT)
      have d2 : Deck (upd J T (.tup us)) D C R (b + 33) := (d1.new nT).mono (by omega)
      have trT : Tr av (upd J T (.tup us)) := trG.keep k2 d2
      generalize upd J T (.tup us) = G2 at *
      have ehaG2 := k2 ha _ ehaG (notDR nhD.1 nhD.2.1)
      have eLG2 := k2 L _ eLG (notDR nLD nLR)
      refine ⟨.int x, rfl, .int y, rfl, .int l, rfl, .ref T, rfl, .ref ha, rfl, ha, rfl, ⟨_, SqL.of ehaG2⟩, fun W2 nW2 => ?_⟩
      have nWE := d2.ne nW2
      refine lc_list (K := K) (a := ha) (xs := ms.map V.int)
        (fun i J => Keep [D, R] G2 J ∧ Deck J D C R (b + 33 + i) ∧ ∃ (fl : List (Int × Int)) (us : List V), fl.length = i ∧ fl.map (·.1) = ms.take i ∧ (∀ p ∈ fl, p.2 = 1 ∨ p.2 = -1) ∧ J W2 = some (.lst us) ∧ Dts (W2 :: av) J us (fl.map prD))
        ⟨Keep.new nW2, (d2.new nW2).mono (by omega), [], [], rfl, rfl, fun _ z => absurd z List.not_mem_nil, upd_same, .nil⟩ (fun i J _ p => SqL.of (p.1 ha _ ehaG2 (notDR nhD.1 nhD.2.1))) (fun i v J hx p => ?_) (fun J p => ?_)
      · obtain ⟨k1, d1, fl, us, f1, f2, f3, f4, f5⟩ := p
        rw [List.getElem?_map] at hx
        obtain ⟨n, hn, rfl⟩ := Option.map_eq_some_iff.mp hx
        have hi : i < ms.length := (List.getElem?_eq_some_iff.mp hn).1
        have trJ : Tr (W2 :: av) J := (trT.keep k1 d1).cons f4
        refine ⟨rfl, .int n, rfl, .ref D, rfl, D, C, R, _, 2, rfl, by decide, by decide, d1, by omega, fun J2 k kp dk' b1 b2 => ?_⟩
        have f4' := kp W2 _ f4 (notDR nWE.1 nWE.2.2)
        have f5' : Dts (W2 :: av) J2 us (fl.map prD) := f5.keep (kp.mono (by intro z hz; simp only [List.mem_cons, List.not_mem_nil, or_false] at hz; rcases hz with hz | hz <;> (subst hz; simp [mD, mR])))
        have trJ2 : Tr (W2 :: av) J2 := trJ.keep kp dk'
        refine ⟨2, k, rfl, rfl, .inl ⟨by decide, by decide⟩, 1, _, rfl, rfl, show 2 ≤ sizeLine by decide, fun t nt => ?_⟩
        have ntav := trJ2.not nt
        have e6 : (upd J2 t (.tup [.int n, .int (1 - 2 * k)])) W2 = some (.lst us) := by rw [upd_ne (ne_of_none f4' nt)]; exact f4'
        refine ⟨us, e6, ?_, ?_, ?_, fl ++ [(n, 1 - 2 * k)], us ++ [.ref t], by rw [List.length_append, f1]; rfl, ?_, ?_, upd_same, ?_⟩
        · have := f5.len
          rw [List.length_map, f1] at this
          rw [this]; exact small1000 (by omega)
        · exact (k1.trans (kp.trans (Keep.new nt))).upd nW2
        · have z := dk'.new (o := .tup [.int n, .int (1 - 2 * k)]) nt
          exact (z.other nWE.1 nWE.2.1 nWE.2.2).mono (by have : ((i + 1 : Nat) : Int) = (i : Int) + 1 := by omega
                                                         omega)
        · rw [List.map_append, f2, List.take_add_one, hn]; rfl
        · intro p hp
          rcases List.mem_append.mp hp with hp | hp
          · exact f3 p hp
          · rw [List.mem_singleton.mp hp]
            show 1 - 2 * k = 1 ∨ 1 - 2 * k = -1
            omega
        · rw [List.map_append]
          have z : Dts (W2 :: av) (upd J2 t (.tup [.int n, .int (1 - 2 * k)])) (us ++ [.ref t]) (fl.map prD ++ [prD (n, 1 - 2 * k)]) :=
            (f5'.keep (Keep.new nt)).app (.cons (.tup ntav upd_same (.cons (.int n) (.cons (.int (1 - 2 * k)) .nil))) .nil)
          exact z.keep (Keep.put List.mem_cons_self)
      · obtain ⟨k3, d3, fl, us', f1, f2, f3, f4, f5⟩ := p
        rw [List.length_map] at d3 f1 f2
        rw [List.take_of_length_le (Nat.le_refl _)] at f2
        refine ⟨W2, us', rfl, .inl ⟨SqL.of f4, fun T2 nT2 => ?_⟩⟩
        have trJ : Tr (W2 :: av) J := (trT.keep k3 d3).cons f4
        refine ⟨show 5 ≤ sizeLine by decide, fun p np => ?_⟩
        have kU : Keep av J (upd J T2 (.tup us')) := Keep.new nT2
        have kV : Keep av (upd J T2 (.tup us')) (upd (upd J T2 (.tup us')) p (.tup [.int x, .int y, .int l, .ref T, .ref T2])) := Keep.new np
        have kJ : Keep av G2 J := k3.mono (by intro z hz; simp only [List.mem_cons, List.not_mem_nil, or_false] at hz; rcases hz with hz | hz <;> (subst hz; assumption))
        have tav : Tr av J := fun a m => trJ a (List.mem_cons_of_mem _ m)
        have dT2 : Dt av (upd J T2 (.tup us')) (.ref T2) (.tuple (fl.map prD)) := .tup (tav.not nT2) upd_same ((f5.keep (Keep.new nT2)).less fun a m => List.mem_cons_of_mem _ m)
        have tU : Tr av (upd J T2 (.tup us')) := tav.upd
        have dTT := ((dT.keep kJ).keep kU).keep kV
        have dT2T := dT2.keep kV
        have k5 : Keep [D, R, L] H (upd (upd J T2 (.tup us')) p (.tup [.int x, .int y, .int l, .ref T, .ref T2])) :=
          kG.trans (((k2.trans (k3.trans ((Keep.new nT2).trans (Keep.new np))))).mono (by intro z hz; simp only [List.mem_cons, List.not_mem_nil, or_false] at hz ⊢; rcases hz with hz | hz <;> simp [hz]))
        refine q _ p l na fl k5 (((d3.new nT2).new np).mono (by omega)) ?_ (by omega) (by omega) ⟨hl1, hl2, by rw [e2]; exact pw1, fun z hz => ?_, by rw [f2]; exact pw2, fun z hz => ?_, by omega, by omega⟩ (fun z => hl4 (by omega)) ?_ tU.upd
        · have z3 := k3 L _ eLG2 (notDR nLD nLR)
          have z4 : (upd J T2 (.tup us')) L = _ := (Keep.new (av := []) nT2) L _ z3 List.not_mem_nil
          have z5 := (Keep.new (av := []) (o := .tup [.int x, .int y, .int l, .ref T, .ref T2]) np) L _ z4 List.not_mem_nil
          rw [z5, e1, f1]
        · have m1 : z.1 ∈ ns := by rw [← e2]; exact List.mem_map_of_mem hz
          have := in1 _ m1
          have := e3 z hz
          omega
        · have m1 : z.1 ∈ ms := by rw [← f2]; exact List.mem_map_of_mem hz
          have := in2 _ m1
          exact ⟨this.1, this.2, f3 z hz⟩
        · exact .tup (tU.not np) upd_same (.cons (.int x) (.cons (.int y) (.cons (.int l) (.cons dTT (.cons dT2T .nil)))))
end
end Rw

namespace Rw
/-! ### rooms joined by pipes: two ways to look, one word -/
abbrev Ed := Nat × Nat
/-! what any parting of the rooms that no pipe crosses says -/
def Con (n : Nat) (E : List Ed) : Prop := ∀ S : Nat → Bool, (∀ e ∈ E, S e.1 = S e.2) → ∀ a, a < n → S a = S 0
/-! groups -/
def grp (g : List Int) (a : Nat) : Int := g.getD a 0
def merge (k o : Int) (g : List Int) : List Int := g.map fun v => if v = o then k else v
def step (g : List Int) (e : Ed) : List Int := merge (grp g e.1) (grp g e.2) g
def joins : List Int → List Ed → Bool
  | _, [] => true
  | g, e :: E => if grp g e.1 = grp g e.2 then false else joins (step g e) E
def start (n : Nat) : List Int := (List.range n).map Int.ofNat
theorem merge_len (k o : Int) (g : List Int) : (merge k o g).length = g.length := List.length_map _
theorem merge_grp {g : List Int} {a : Nat} (h : a < g.length) (k o : Int) : grp (merge k o g) a = if grp g a = o then k else grp g a := by
  unfold grp merge
  rw [List.getD_eq_getElem?_getD, List.getElem?_map, List.getD_eq_getElem?_getD, List.getElem?_eq_getElem h]
  rfl
theorem merge_self (k : Int) (g : List Int) : merge k k g = g := by
  unfold merge
  conv => rhs; rw [← List.map_id g]
  apply List.map_congr_left
  intro v _
  by_cases h : v = k
  · rw [if_pos h, h]; rfl
  · rw [if_neg h]; rfl
/-! how many names of groups are left -/
def used (n : Nat) (g : List Int) : List Nat := (List.range n).filter fun v => decide ((v : Int) ∈ g)
theorem grp_mem {g : List Int} {a : Nat} (h : a < g.length) : grp g a ∈ g := by
  unfold grp
  rw [List.getD_eq_getElem?_getD, List.getElem?_eq_getElem h]
  exact List.getElem_mem h
theorem mem_grp {g : List Int} {v : Int} (h : v ∈ g) : ∃ a, a < g.length ∧ grp g a = v := by
  obtain ⟨a, ha, e⟩ := List.mem_iff_getElem.mp h
  refine ⟨a, ha, ?_⟩
  unfold grp
  rw [List.getD_eq_getElem?_getD, List.getElem?_eq_getElem ha, ← e]; rfl
theorem mem_merge {k o v : Int} {g : List Int} (hk : k ∈ g) (hko : k ≠ o) : v ∈ merge k o g ↔ v ∈ g ∧ v ≠ o := by
  unfold merge
  rw [List.mem_map]
  constructor
  · rintro ⟨u, hu, e⟩
    by_cases h : u = o
    · rw [if_pos h] at e; subst e; exact ⟨hk, hko⟩
    · rw [if_neg h] at e; subst e; exact ⟨hu, h⟩
  · rintro ⟨hv, ho⟩
    exact ⟨v, hv, if_neg ho⟩
theorem filter_drop {n : Nat} {p : Nat → Bool} {o : Nat} : ∀ l : List Nat, l.Nodup → o ∈ l → p o = true → (l.filter fun v => p v && decide (v ≠ o)).length + 1 = (l.filter p).length
  | [], _, h, _ => nomatch h
  | x :: l, nd, h, hp => by
    rw [List.nodup_cons] at nd
    by_cases e : x = o
    · subst e
      have z : (l.filter fun v => p v && decide (v ≠ x)) = l.filter p := by
        apply List.filter_congr
        intro v hv
        have : v ≠ x := fun q => nd.1 (q ▸ hv)
        rw [decide_eq_true this, Bool.and_true]
      rw [List.filter_cons, List.filter_cons, hp]
      simp only [ne_eq, not_true_eq_false, decide_false, Bool.and_false, Bool.false_eq_true, if_false, if_true]
      rw [List.length_cons]
      simp only [ne_eq] at z
      rw [z]
    · have h' : o ∈ l := (List.mem_cons.mp h).elim (fun q => absurd q.symm e) id
      have ih := filter_drop (n := n) l nd.2 h' hp
      rw [List.filter_cons, List.filter_cons, decide_eq_true e, Bool.and_true]
      by_cases px : p x = true
      · rw [if_pos px, if_pos px, List.length_cons, List.length_cons]; omega
      · rw [if_neg px, if_neg px]; exact ih
structure Gs (n : Nat) (g : List Int) : Prop where
  len : g.length = n
  rng : ∀ v ∈ g, 0 ≤ v ∧ v < n
theorem Gs.start (n : Nat) : Gs n (start n) := by
  refine ⟨by unfold Rw.start; rw [List.length_map, List.length_range], fun v hv => ?_⟩
  unfold Rw.start at hv
  obtain ⟨a, ha, rfl⟩ := List.mem_map.mp hv
  have := List.mem_range.mp ha
  exact ⟨Int.natCast_nonneg a, Int.ofNat_lt.mpr this⟩
theorem Gs.step {n : Nat} {g : List Int} {e : Ed} (h : Gs n g) (h1 : e.1 < n) (h2 : e.2 < n) : Gs n (step g e) := by
  refine ⟨by unfold Rw.step; rw [merge_len]; exact h.len, fun v hv => ?_⟩
  unfold Rw.step merge at hv
  obtain ⟨u, hu, rfl⟩ := List.mem_map.mp hv
  by_cases q : u = grp g e.2
  · rw [if_pos q]; exact h.rng _ (grp_mem (by rw [h.len]; exact h1))
  · rw [if_neg q]; exact h.rng u hu
theorem used_step {n : Nat} {g : List Int} {e : Ed} (h : Gs n g) (h1 : e.1 < n) (h2 : e.2 < n) (ne : grp g e.1 ≠ grp g e.2) : (used n (step g e)).length + 1 = (used n g).length := by
  have m1 : grp g e.1 ∈ g := grp_mem (by rw [h.len]; exact h1)
  have m2 : grp g e.2 ∈ g := grp_mem (by rw [h.len]; exact h2)
  have r2 := h.rng _ m2
  have eo : ((grp g e.2).toNat : Int) = grp g e.2 := by omega
  unfold used Rw.step
  have z : ((List.range n).filter fun (v : Nat) => decide ((v : Int) ∈ merge (grp g e.1) (grp g e.2) g)) = (List.range n).filter fun (v : Nat) => decide ((v : Int) ∈ g) && decide (v ≠ (grp g e.2).toNat) := by
    apply List.filter_congr
    intro v _
    rw [← Bool.decide_and]
    apply decide_eq_decide.mpr
    rw [mem_merge m1 ne]
    constructor
    · rintro ⟨a, b⟩; exact ⟨a, fun q => b (by rw [q]; exact eo)⟩
    · rintro ⟨a, b⟩; exact ⟨a, fun q => b (by omega)⟩
  rw [z]
  exact filter_drop (n := n) (List.range n) List.nodup_range (List.mem_range.mpr (by omega)) (decide_eq_true (by rw [eo]; exact m2))
theorem used_start (n : Nat) : (used n (start n)).length = n := by
  unfold used
  rw [List.filter_eq_self.mpr (fun v hv => decide_eq_true (by unfold Rw.start; exact List.mem_map.mpr ⟨v, hv, rfl⟩)), List.length_range]
/-! all pipes taken, whether or not they join anew -/
def run (g : List Int) (E : List Ed) : List Int := E.foldl step g
theorem run_gs {n : Nat} : ∀ (E : List Ed) (g : List Int), (∀ e ∈ E, e.1 < n ∧ e.2 < n) → Gs n g → Gs n (run g E)
  | [], g, _, h => h
  | e :: E, g, hE, h => run_gs E (step g e) (fun f m => hE f (List.mem_cons_of_mem _ m)) (h.step (hE e List.mem_cons_self).1 (hE e List.mem_cons_self).2)
theorem used_run {n : Nat} : ∀ (E : List Ed) (g : List Int), (∀ e ∈ E, e.1 < n ∧ e.2 < n) → Gs n g → (used n g).length ≤ (used n (run g E)).length + E.length ∧ (joins g E = true → (used n g).length = (used n (run g E)).length + E.length) ∧ (joins g E = false → (used n g).length < (used n (run g E)).length + E.length)
  | [], g, _, h => ⟨Nat.le_refl _, fun _ => rfl, fun q => nomatch q⟩
  | e :: E, g, hE, h => by
    have he := hE e List.mem_cons_self
    have ih := used_run E (step g e) (fun f m => hE f (List.mem_cons_of_mem _ m)) (h.step he.1 he.2)
    have er : run g (e :: E) = run (step g e) E := rfl
    have ej : joins g (e :: E) = if grp g e.1 = grp g e.2 then false else joins (step g e) E := rfl
    rw [er, ej, List.length_cons]
    by_cases q : grp g e.1 = grp g e.2
    · have es : step g e = g := by unfold Rw.step; rw [q]; exact merge_self _ _
      rw [es] at ih ⊢
      rw [if_pos q]
      exact ⟨by omega, fun z => absurd z (by decide), fun _ => by omega⟩
    · have u := used_step h he.1 he.2 q
      rw [if_neg q]
      refine ⟨by omega, fun z => ?_, fun z => ?_⟩
      · have := ih.2.1 z; omega
      · have := ih.2.2 z; omega
/-! rooms of one group stay of one group; a pipe's rooms are of one -/
theorem step_keep {g : List Int} {e : Ed} {a b : Nat} (ha : a < g.length) (hb : b < g.length) (h : grp g a = grp g b) : grp (step g e) a = grp (step g e) b := by
  unfold step
  rw [merge_grp ha, merge_grp hb, h]
theorem step_both {g : List Int} {e : Ed} (ha : e.1 < g.length) (hb : e.2 < g.length) : grp (step g e) e.1 = grp (step g e) e.2 := by
  unfold step
  rw [merge_grp ha, merge_grp hb, if_pos rfl]
  split <;> rfl
theorem run_keep {n : Nat} : ∀ (E : List Ed) (g : List Int), (∀ e ∈ E, e.1 < n ∧ e.2 < n) → Gs n g → ∀ a b, a < n → b < n → grp g a = grp g b → grp (run g E) a = grp (run g E) b
  | [], _, _, _, _, _, _, _, h => h
  | e :: E, g, hE, hg, a, b, ha, hb, h => by
    have he := hE e List.mem_cons_self
    exact run_keep E (step g e) (fun f m => hE f (List.mem_cons_of_mem _ m)) (hg.step he.1 he.2) a b ha hb (step_keep (by rw [hg.len]; exact ha) (by rw [hg.len]; exact hb) h)
theorem run_edges {n : Nat} : ∀ (E : List Ed) (g : List Int), (∀ e ∈ E, e.1 < n ∧ e.2 < n) → Gs n g → ∀ e ∈ E, grp (run g E) e.1 = grp (run g E) e.2
  | [], _, _, _, _, m => nomatch m
  | e :: E, g, hE, hg, f, m => by
    have he := hE e List.mem_cons_self
    have hg' := hg.step he.1 he.2
    have hE' : ∀ f ∈ E, f.1 < n ∧ f.2 < n := fun f m => hE f (List.mem_cons_of_mem _ m)
    rcases List.mem_cons.mp m with m | m
    · subst m
      exact run_keep E (step g f) hE' hg' f.1 f.2 he.1 he.2 (step_both (by rw [hg.len]; exact he.1) (by rw [hg.len]; exact he.2))
    · exact run_edges E (step g e) hE' hg' f m
/-! a parting that no pipe crosses holds groups together -/
theorem run_part {n : Nat} (S : Nat → Bool) : ∀ (E : List Ed) (g : List Int), (∀ e ∈ E, e.1 < n ∧ e.2 < n) → (∀ e ∈ E, S e.1 = S e.2) → Gs n g → (∀ a b, a < n → b < n → grp g a = grp g b → S a = S b) → ∀ a b, a < n → b < n → grp (run g E) a = grp (run g E) b → S a = S b
  | [], _, _, _, _, h, a, b, ha, hb, e => h a b ha hb e
  | e :: E, g, hE, hS, hg, h, a, b, ha, hb, q => by
    have he := hE e List.mem_cons_self
    have hs := hS e List.mem_cons_self
    refine run_part S E (step g e) (fun f m => hE f (List.mem_cons_of_mem _ m)) (fun f m => hS f (List.mem_cons_of_mem _ m)) (hg.step he.1 he.2) (fun c d hc hd z => ?_) a b ha hb q
    unfold step at z
    rw [merge_grp (by rw [hg.len]; exact hc), merge_grp (by rw [hg.len]; exact hd)] at z
    by_cases c1 : grp g c = grp g e.2
    · by_cases d1 : grp g d = grp g e.2
      · exact h c d hc hd (c1.trans d1.symm)
      · rw [if_pos c1, if_neg d1] at z
        rw [h c e.2 hc he.2 c1, ← hs, h d e.1 hd he.1 z.symm]
    · by_cases d1 : grp g d = grp g e.2
      · rw [if_neg c1, if_pos d1] at z
        rw [h d e.2 hd he.2 d1, ← hs, h c e.1 hc he.1 z]
      · rw [if_neg c1, if_neg d1] at z
        exact h c d hc hd z
theorem start_inj {n a b : Nat} (ha : a < n) (hb : b < n) (h : grp (start n) a = grp (start n) b) : a = b := by
  unfold grp start at h
  rw [List.getD_eq_getElem?_getD, List.getD_eq_getElem?_getD, List.getElem?_map, List.getElem?_map, List.getElem?_range ha, List.getElem?_range hb] at h
  exact Int.ofNat.inj h
theorem one_used {n : Nat} {g : List Int} (hg : Gs n g) (h : (used n g).length ≤ 1) {a b : Nat} (ha : a < n) (hb : b < n) : grp g a = grp g b := by
  have ma := grp_mem (g := g) (by rw [hg.len]; exact ha)
  have mb := grp_mem (g := g) (by rw [hg.len]; exact hb)
  have ra := hg.rng _ ma
  have rb := hg.rng _ mb
  have ua : (grp g a).toNat ∈ used n g := List.mem_filter.mpr ⟨List.mem_range.mpr (by omega), decide_eq_true (by rw [show (((grp g a).toNat : Nat) : Int) = grp g a by omega]; exact ma)⟩
  have ub : (grp g b).toNat ∈ used n g := List.mem_filter.mpr ⟨List.mem_range.mpr (by omega), decide_eq_true (by rw [show (((grp g b).toNat : Nat) : Int) = grp g b by omega]; exact mb)⟩
  match hu : used n g, h with
  | [], _ => rw [hu] at ua; exact absurd ua List.not_mem_nil
  | [x], _ =>
    rw [hu] at ua ub
    have e1 := List.mem_singleton.mp ua
    have e2 := List.mem_singleton.mp ub
    omega
theorem used_one {n : Nat} {g : List Int} (hg : Gs n g) (h : ∀ a, a < n → grp g a = grp g 0) : (used n g).length ≤ 1 := by
  have nd : (used n g).Nodup := List.nodup_range.filter _
  have all : ∀ v ∈ used n g, (v : Int) = grp g 0 := fun v hv => by
    obtain ⟨a, ha, e⟩ := mem_grp (of_decide_eq_true (List.mem_filter.mp hv).2)
    rw [← e]
    exact h a (by rw [← hg.len]; exact ha)
  match hu : used n g, nd, all with
  | [], _, _ => exact Nat.zero_le _
  | [x], _, _ => exact Nat.le_refl _
  | x :: y :: r, nd, all =>
    have e1 := all x List.mem_cons_self
    have e2 := all y (List.mem_cons_of_mem _ List.mem_cons_self)
    rw [List.nodup_cons] at nd
    exact absurd (show x ∈ y :: r by rw [show x = y by omega]; exact List.mem_cons_self) nd.1
theorem joins_iff {n : Nat} {E : List Ed} (hn : 0 < n) (hE : ∀ e ∈ E, e.1 < n ∧ e.2 < n) (hl : E.length + 1 = n) : joins (start n) E = true ↔ Con n E := by
  have hg := Gs.start n
  have hr := run_gs E (start n) hE hg
  have hu := used_run E (start n) hE hg
  rw [used_start] at hu
  constructor
  · intro hj S hS a ha
    have h1 := hu.2.1 hj
    have eq := one_used hr (by omega) ha hn
    exact run_part S E (start n) hE hS hg (fun c d hc hd z => by rw [start_inj hc hd z]) a 0 ha hn eq
  · intro hc
    cases hj : joins (start n) E with
    | true => rfl
    | false =>
      have h1 := hu.2.2 hj
      have all : ∀ a, a < n → grp (run (start n) E) a = grp (run (start n) E) 0 := fun a ha => by
        have z := hc (fun a => decide (grp (run (start n) E) a = grp (run (start n) E) 0)) (fun e m => by
          have := run_edges E (start n) hE hg e m
          show decide _ = decide _
          rw [this]) a ha
        have z0 : decide (grp (run (start n) E) 0 = grp (run (start n) E) 0) = true := decide_eq_true rfl
        exact of_decide_eq_true (z.trans z0)
      have := used_one hr all
      omega
end Rw

namespace Rw
structure Pi where
  x : Int
  y : Int
  l : Int
  na : List (Int × Int)
  fl : List (Int × Int)
deriving Inhabited
def edges (ps : List Pi) : List Ed := ps.map fun p => (p.x.toNat, p.y.toNat)
end Rw

namespace Rw
/-! ### distances of rooms in a house: a tree's metric, built pipe by pipe -/
def Dn (ps : List Pi) (d : Int → Int → Int) (s t : Int) (i : Nat) : Prop :=
  ∃ p, ps[i]? = some p ∧ ((p.x = t ∧ d s p.y + p.l = d s t) ∨ (p.y = t ∧ d s p.x + p.l = d s t))
structure FM (ps : List Pi) (g : Int → Int) (d : Int → Int → Int) : Prop where
  len : ∀ p ∈ ps, 1 ≤ p.l
  zero : ∀ s, d s s = 0
  sym : ∀ s t, d s t = d t s
  pos : ∀ s t, g s = g t → s ≠ t → 0 < d s t
  ends : ∀ p ∈ ps, g p.x = g p.y
  step : ∀ p ∈ ps, ∀ s, g s = g p.x → d s p.x = d s p.y + p.l ∨ d s p.y = d s p.x + p.l
  par : ∀ s t, g s = g t → s ≠ t → ∃ i, Dn ps d s t i
  uni : ∀ s t i j, g s = g t → Dn ps d s t i → Dn ps d s t j → i = j
  side : ∀ (i j : Nat) (p q : Pi), i ≠ j → ps[i]? = some p → ps[j]? = some q → g p.x = g q.x → d p.x q.x - d p.y q.x = d p.x q.y - d p.y q.y
theorem FM.nn {ps : List Pi} {g : Int → Int} {d : Int → Int → Int} (F : FM ps g d) {s t : Int} (h : g s = g t) : 0 ≤ d s t := by
  by_cases e : s = t
  · subst e; rw [F.zero]; exact Int.le_refl 0
  · have := F.pos s t h e; omega
def g1 (g : Int → Int) (p : Pi) (r : Int) : Int := if g r = g p.y then g p.x else g r
def d1 (g : Int → Int) (d : Int → Int → Int) (p : Pi) (s t : Int) : Int :=
  if g s = g t then d s t else if g s = g p.x ∧ g t = g p.y then d s p.x + p.l + d p.y t else if g s = g p.y ∧ g t = g p.x then d s p.y + p.l + d p.x t else 0
theorem FM.empty : FM [] id (fun _ _ => 0) where
  len := fun _ h => nomatch h
  zero := fun _ => rfl
  sym := fun _ _ => rfl
  pos := fun s t h n => absurd h n
  ends := fun _ h => nomatch h
  step := fun _ h => nomatch h
  par := fun s t h n => absurd h n
  uni := fun _ _ _ _ _ ⟨_, h, _⟩ => by simp at h
  side := fun _ _ _ _ _ h => by simp at h
section
variable {ps : List Pi} {g : Int → Int} {d : Int → Int → Int} {p : Pi}
theorem d1_same {s t : Int} (h : g s = g t) : d1 g d p s t = d s t := by unfold d1; rw [if_pos h]
theorem d1_ab (ne : g p.x ≠ g p.y) {s t : Int} (h1 : g s = g p.x) (h2 : g t = g p.y) : d1 g d p s t = d s p.x + p.l + d p.y t := by
  unfold d1; rw [if_neg (by rw [h1, h2]; exact ne), if_pos ⟨h1, h2⟩]
theorem d1_ba (ne : g p.x ≠ g p.y) {s t : Int} (h1 : g s = g p.y) (h2 : g t = g p.x) : d1 g d p s t = d s p.y + p.l + d p.x t := by
  unfold d1; rw [if_neg (by rw [h1, h2]; exact ne.symm), if_neg (by rw [h1]; exact fun z => ne z.1.symm), if_pos ⟨h1, h2⟩]
theorem g1_cases {s t : Int} (h : g1 g p s = g1 g p t) : g s = g t ∨ (g s = g p.x ∧ g t = g p.y) ∨ (g s = g p.y ∧ g t = g p.x) := by
  unfold g1 at h
  split at h <;> split at h <;> rename_i a b
  · exact .inl (a.trans b.symm)
  · exact .inr (.inr ⟨a, h.symm⟩)
  · exact .inr (.inl ⟨h, b⟩)
  · exact .inl h
theorem get_snoc {i : Nat} {q : Pi} (h : (ps ++ [p])[i]? = some q) : (ps[i]? = some q ∧ q ∈ ps) ∨ (i = ps.length ∧ q = p) := by
  by_cases hi : i < ps.length
  · rw [List.getElem?_append_left hi] at h
    exact .inl ⟨h, List.mem_of_getElem? h⟩
  · rw [List.getElem?_append_right (by omega)] at h
    right
    have : i - ps.length = 0 := by
      apply Classical.byContradiction
      intro z
      rw [List.getElem?_eq_none (by simp; omega)] at h
      cases h
    rw [this] at h
    simp at h
    exact ⟨by omega, h.symm⟩
theorem snoc_get {i : Nat} {q : Pi} (h : ps[i]? = some q) : (ps ++ [p])[i]? = some q := by
  rw [List.getElem?_append_left (List.getElem?_eq_some_iff.mp h).1]; exact h
theorem snoc_last : (ps ++ [p])[ps.length]? = some p := by
  rw [List.getElem?_append_right (Nat.le_refl _), Nat.sub_self]; rfl
/-! going down: old pipes of the same group, of the other one -/
theorem dn_same (F : FM ps g d) {s t : Int} (h : g s = g t) {i : Nat} {q : Pi} (e : ps[i]? = some q) (m : q ∈ ps) :
    ((q.x = t ∧ d1 g d p s q.y + q.l = d1 g d p s t) ∨ (q.y = t ∧ d1 g d p s q.x + q.l = d1 g d p s t)) ↔ ((q.x = t ∧ d s q.y + q.l = d s t) ∨ (q.y = t ∧ d s q.x + q.l = d s t)) := by
  have en := F.ends q m
  rw [d1_same h]
  constructor <;> rintro (⟨a, b⟩ | ⟨a, b⟩)
  · exact .inl ⟨a, by rw [d1_same (by rw [h, ← a, en])] at b; exact b⟩
  · exact .inr ⟨a, by rw [d1_same (by rw [h, ← a, en])] at b; exact b⟩
  · exact .inl ⟨a, by rw [d1_same (by rw [h, ← a, en])]; exact b⟩
  · exact .inr ⟨a, by rw [d1_same (by rw [h, ← a, en])]; exact b⟩
theorem dn_ab (F : FM ps g d) (ne : g p.x ≠ g p.y) {s t : Int} (h1 : g s = g p.x) (h2 : g t = g p.y) {q : Pi} (m : q ∈ ps) :
    ((q.x = t ∧ d1 g d p s q.y + q.l = d1 g d p s t) ∨ (q.y = t ∧ d1 g d p s q.x + q.l = d1 g d p s t)) ↔ ((q.x = t ∧ d p.y q.y + q.l = d p.y t) ∨ (q.y = t ∧ d p.y q.x + q.l = d p.y t)) := by
  have en := F.ends q m
  rw [d1_ab ne h1 h2]
  constructor <;> rintro (⟨a, b⟩ | ⟨a, b⟩)
  · exact .inl ⟨a, by rw [d1_ab ne h1 (by rw [← h2, ← a, en])] at b; omega⟩
  · exact .inr ⟨a, by rw [d1_ab ne h1 (by rw [← h2, ← a, en])] at b; omega⟩
  · exact .inl ⟨a, by rw [d1_ab ne h1 (by rw [← h2, ← a, en])]; omega⟩
  · exact .inr ⟨a, by rw [d1_ab ne h1 (by rw [← h2, ← a, en])]; omega⟩
theorem dn_ba (F : FM ps g d) (ne : g p.x ≠ g p.y) {s t : Int} (h1 : g s = g p.y) (h2 : g t = g p.x) {q : Pi} (m : q ∈ ps) :
    ((q.x = t ∧ d1 g d p s q.y + q.l = d1 g d p s t) ∨ (q.y = t ∧ d1 g d p s q.x + q.l = d1 g d p s t)) ↔ ((q.x = t ∧ d p.x q.y + q.l = d p.x t) ∨ (q.y = t ∧ d p.x q.x + q.l = d p.x t)) := by
  have en := F.ends q m
  rw [d1_ba ne h1 h2]
  constructor <;> rintro (⟨a, b⟩ | ⟨a, b⟩)
  · exact .inl ⟨a, by rw [d1_ba ne h1 (by rw [← h2, ← a, en])] at b; omega⟩
  · exact .inr ⟨a, by rw [d1_ba ne h1 (by rw [← h2, ← a, en])] at b; omega⟩
  · exact .inl ⟨a, by rw [d1_ba ne h1 (by rw [← h2, ← a, en])]; omega⟩
  · exact .inr ⟨a, by rw [d1_ba ne h1 (by rw [← h2, ← a, en])]; omega⟩
/-! the new pipe and an old one can't both lead down -/
theorem dn_new_old (F : FM ps g d) (ne : g p.x ≠ g p.y) (hl : 1 ≤ p.l) {s t : Int} (h : g1 g p s = g1 g p t) {q : Pi} (m : q ∈ ps)
    (hp : (p.x = t ∧ d1 g d p s p.y + p.l = d1 g d p s t) ∨ (p.y = t ∧ d1 g d p s p.x + p.l = d1 g d p s t))
    (hq : (q.x = t ∧ d1 g d p s q.y + q.l = d1 g d p s t) ∨ (q.y = t ∧ d1 g d p s q.x + q.l = d1 g d p s t)) : False := by
  have en := F.ends q m
  have ql := F.len q m
  rcases hp with ⟨rfl, b⟩ | ⟨rfl, b⟩
  · rcases g1_cases h with c | ⟨c1, c2⟩ | ⟨c1, c2⟩
    · rw [d1_ab ne c rfl, d1_same c, F.zero] at b; omega
    · exact ne c2
    · rcases (dn_ba F ne c1 c2 m).mp hq with ⟨a, z⟩ | ⟨a, z⟩
      · have := F.nn (s := p.x) (t := q.y) (by rw [← en, a]); rw [F.zero] at z; omega
      · have := F.nn (s := p.x) (t := q.x) (by rw [en, a]); rw [F.zero] at z; omega
  · rcases g1_cases h with c | ⟨c1, c2⟩ | ⟨c1, c2⟩
    · rw [d1_ba ne c rfl, d1_same c, F.zero] at b; omega
    · rcases (dn_ab F ne c1 c2 m).mp hq with ⟨a, z⟩ | ⟨a, z⟩
      · have := F.nn (s := p.y) (t := q.y) (by rw [← en, a]); rw [F.zero] at z; omega
      · have := F.nn (s := p.y) (t := q.x) (by rw [en, a]); rw [F.zero] at z; omega
    · exact ne c2.symm
theorem FM.snoc (F : FM ps g d) (ne : g p.x ≠ g p.y) (hl : 1 ≤ p.l) : FM (ps ++ [p]) (g1 g p) (d1 g d p) where
  len := fun q m => (List.mem_append.mp m).elim (F.len q) fun z => by rw [List.mem_singleton.mp z]; exact hl
  zero := fun s => by rw [d1_same rfl]; exact F.zero s
  sym := fun s t => by
    show d1 g d p s t = d1 g d p t s
    by_cases h : g s = g t
    · rw [d1_same h, d1_same h.symm]; exact F.sym s t
    · by_cases h1 : g s = g p.x ∧ g t = g p.y
      · rw [d1_ab ne h1.1 h1.2, d1_ba ne h1.2 h1.1, F.sym s p.x, F.sym t p.y]; omega
      · by_cases h2 : g s = g p.y ∧ g t = g p.x
        · rw [d1_ba ne h2.1 h2.2, d1_ab ne h2.2 h2.1, F.sym s p.y, F.sym t p.x]; omega
        · unfold d1
          rw [if_neg h, if_neg h1, if_neg h2, if_neg (fun z : g t = g s => h z.symm), if_neg (fun z : g t = g p.x ∧ g s = g p.y => h2 ⟨z.2, z.1⟩), if_neg (fun z : g t = g p.y ∧ g s = g p.x => h1 ⟨z.2, z.1⟩)]
  pos := fun s t h n => by
    rcases g1_cases h with c | ⟨c1, c2⟩ | ⟨c1, c2⟩
    · rw [d1_same c]; exact F.pos s t c n
    · rw [d1_ab ne c1 c2]; have := F.nn c1; have := F.nn (s := p.y) (t := t) c2.symm; omega
    · rw [d1_ba ne c1 c2]; have := F.nn c1; have := F.nn (s := p.x) (t := t) c2.symm; omega
  ends := fun q m => by
    rcases List.mem_append.mp m with m | m
    · unfold g1; rw [F.ends q m]
    · rw [List.mem_singleton.mp m]; unfold g1; rw [if_pos rfl, if_neg ne]
  step := fun q m s h => by
    rcases List.mem_append.mp m with m | m
    · have en := F.ends q m
      rcases g1_cases h with c | ⟨c1, c2⟩ | ⟨c1, c2⟩
      · rw [d1_same c, d1_same (c.trans en)]; exact F.step q m s c
      · rw [d1_ab ne c1 c2, d1_ab ne c1 (en.symm.trans c2)]; have := F.step q m p.y c2.symm; omega
      · rw [d1_ba ne c1 c2, d1_ba ne c1 (en.symm.trans c2)]; have := F.step q m p.x c2.symm; omega
    · rw [List.mem_singleton.mp m] at h ⊢
      rcases g1_cases h with c | ⟨c1, c2⟩ | ⟨c1, c2⟩
      · rw [d1_same c, d1_ab ne c rfl, F.zero]; omega
      · exact absurd c2 ne
      · rw [d1_ba ne c1 rfl, d1_same c1, F.zero]; omega
  par := fun s t h n => by
    rcases g1_cases h with c | ⟨c1, c2⟩ | ⟨c1, c2⟩
    · obtain ⟨i, q, e, z⟩ := F.par s t c n
      exact ⟨i, q, snoc_get e, (dn_same F c e (List.mem_of_getElem? e)).mpr z⟩
    · by_cases e : p.y = t
      · subst e
        exact ⟨ps.length, p, snoc_last, .inr ⟨rfl, by rw [d1_same c1, d1_ab ne c1 rfl, F.zero]; omega⟩⟩
      · obtain ⟨i, q, e, z⟩ := F.par p.y t c2.symm e
        exact ⟨i, q, snoc_get e, (dn_ab F ne c1 c2 (List.mem_of_getElem? e)).mpr z⟩
    · by_cases e : p.x = t
      · subst e
        exact ⟨ps.length, p, snoc_last, .inl ⟨rfl, by rw [d1_same c1, d1_ba ne c1 rfl, F.zero]; omega⟩⟩
      · obtain ⟨i, q, e, z⟩ := F.par p.x t c2.symm e
        exact ⟨i, q, snoc_get e, (dn_ba F ne c1 c2 (List.mem_of_getElem? e)).mpr z⟩
  uni := fun s t i j h ⟨q1, e1, z1⟩ ⟨q2, e2, z2⟩ => by
    rcases get_snoc e1 with ⟨f1, m1⟩ | ⟨f1, rfl⟩ <;> rcases get_snoc e2 with ⟨f2, m2⟩ | ⟨f2, k2⟩
    · rcases g1_cases h with c | ⟨c1, c2⟩ | ⟨c1, c2⟩
      · exact F.uni s t i j c ⟨q1, f1, (dn_same F c f1 m1).mp z1⟩ ⟨q2, f2, (dn_same F c f2 m2).mp z2⟩
      · exact F.uni p.y t i j c2.symm ⟨q1, f1, (dn_ab F ne c1 c2 m1).mp z1⟩ ⟨q2, f2, (dn_ab F ne c1 c2 m2).mp z2⟩
      · exact F.uni p.x t i j c2.symm ⟨q1, f1, (dn_ba F ne c1 c2 m1).mp z1⟩ ⟨q2, f2, (dn_ba F ne c1 c2 m2).mp z2⟩
    · subst k2; exact (dn_new_old F ne hl h m1 z2 z1).elim
    · exact (dn_new_old F ne hl h m2 z1 z2).elim
    · rw [f1, f2]
  side := fun i j q1 q2 nij e1 e2 h => by
    rcases get_snoc e1 with ⟨f1, m1⟩ | ⟨f1, k1⟩ <;> rcases get_snoc e2 with ⟨f2, m2⟩ | ⟨f2, k2⟩
    · have n1 := F.ends q1 m1
      have n2 := F.ends q2 m2
      rcases g1_cases h with c | ⟨c1, c2⟩ | ⟨c1, c2⟩
      · rw [d1_same c, d1_same (n1.symm.trans c), d1_same (c.trans n2), d1_same (n1.symm.trans (c.trans n2))]
        exact F.side i j q1 q2 nij f1 f2 c
      · rw [d1_ab ne c1 c2, d1_ab ne (n1.symm.trans c1) c2, d1_ab ne c1 (n2.symm.trans c2), d1_ab ne (n1.symm.trans c1) (n2.symm.trans c2)]; omega
      · rw [d1_ba ne c1 c2, d1_ba ne (n1.symm.trans c1) c2, d1_ba ne c1 (n2.symm.trans c2), d1_ba ne (n1.symm.trans c1) (n2.symm.trans c2)]; omega
    · subst k2
      have n1 := F.ends q1 m1
      rcases g1_cases h with c | ⟨c1, c2⟩ | ⟨c1, c2⟩
      · rw [d1_same c, d1_same (n1.symm.trans c), d1_ab ne c rfl, d1_ab ne (n1.symm.trans c) rfl]; omega
      · exact absurd c2 ne
      · rw [d1_ba ne c1 rfl, d1_ba ne (n1.symm.trans c1) rfl, d1_same c1, d1_same (n1.symm.trans c1), F.zero]; omega
    · subst k1
      have n2 := F.ends q2 m2
      rcases g1_cases h with c | ⟨c1, c2⟩ | ⟨c1, c2⟩
      · rw [d1_same c, d1_same (c.trans n2), d1_ba ne rfl c.symm, d1_ba ne rfl (n2.symm.trans c.symm), F.zero]; omega
      · rw [d1_ab ne rfl c2, d1_ab ne rfl (n2.symm.trans c2), d1_same c2.symm, d1_same (c2.symm.trans n2), F.zero]; omega
      · exact absurd c1 ne
    · exact absurd (f1.trans f2.symm) nij
end
/-! all pipes of a house, one behind another -/
theorem FM.all {n : Int} (n0 : 0 ≤ n) : ∀ (qs ps : List Pi) (gl : List Int) (g : Int → Int) (d : Int → Int → Int), FM ps g d → gl.length = n.toNat → (∀ r, 0 ≤ r → r < n → g r = grp gl r.toNat) →
    (∀ p ∈ qs, 0 ≤ p.x ∧ p.x < n ∧ 0 ≤ p.y ∧ p.y < n ∧ 1 ≤ p.l) → joins gl (edges qs) = true → ∃ g' d', FM (ps ++ qs) g' d'
  | [], ps, gl, g, d, F, _, _, _, _ => ⟨g, d, by rw [List.append_nil]; exact F⟩
  | p :: qs, ps, gl, g, d, F, hl, hg, ok, hj => by
    obtain ⟨a1, a2, a3, a4, a5⟩ := ok p List.mem_cons_self
    have hj' : (if grp gl p.x.toNat = grp gl p.y.toNat then false else joins (Rw.step gl (p.x.toNat, p.y.toNat)) (edges qs)) = true := hj
    split at hj'
    · cases hj'
    · rename_i ne
      have ne' : g p.x ≠ g p.y := by rw [hg _ a1 a2, hg _ a3 a4]; exact ne
      obtain ⟨g', d', F'⟩ := FM.all n0 qs (ps ++ [p]) (Rw.step gl (p.x.toNat, p.y.toNat)) (g1 g p) (d1 g d p) (F.snoc ne' a5) (by unfold Rw.step; rw [merge_len]; exact hl) (fun r r0 r1 => by
        unfold Rw.step g1
        rw [merge_grp (by omega), hg _ r0 r1, hg _ a1 a2, hg _ a3 a4]) (fun q m => ok q (List.mem_cons_of_mem _ m)) hj'
      exact ⟨g', d', by rw [List.append_assoc] at F'; exact F'⟩
/-! ### the rooms' distances of a house -/
structure Tm (n : Int) (ps : List Pi) (d : Int → Int → Int) : Prop where
  ok : ∀ p ∈ ps, 0 ≤ p.x ∧ p.x < n ∧ 0 ≤ p.y ∧ p.y < n ∧ 1 ≤ p.l
  zero : ∀ s, d s s = 0
  sym : ∀ s t, d s t = d t s
  pos : ∀ s t, 0 ≤ s → s < n → 0 ≤ t → t < n → s ≠ t → 0 < d s t
  step : ∀ p ∈ ps, ∀ s, 0 ≤ s → s < n → d s p.x = d s p.y + p.l ∨ d s p.y = d s p.x + p.l
  par : ∀ s t, 0 ≤ s → s < n → 0 ≤ t → t < n → s ≠ t → ∃ i, Dn ps d s t i
  uni : ∀ s t i j, 0 ≤ s → s < n → 0 ≤ t → t < n → Dn ps d s t i → Dn ps d s t j → i = j
  side : ∀ (i j : Nat) (p q : Pi), i ≠ j → ps[i]? = some p → ps[j]? = some q → d p.x q.x - d p.y q.x = d p.x q.y - d p.y q.y
theorem tree {n : Int} {ps : List Pi} (n0 : 1 ≤ n) (ln : (ps.length : Int) = n - 1) (ok : ∀ p ∈ ps, 0 ≤ p.x ∧ p.x < n ∧ 0 ≤ p.y ∧ p.y < n ∧ 1 ≤ p.l) (con : Con n.toNat (edges ps)) : ∃ d, Tm n ps d := by
  have hE : ∀ e ∈ edges ps, e.1 < n.toNat ∧ e.2 < n.toNat := by
    intro e he
    obtain ⟨p, m, rfl⟩ := List.mem_map.mp he
    obtain ⟨a1, a2, a3, a4, _⟩ := ok p m
    exact ⟨by show p.x.toNat < n.toNat; omega, by show p.y.toNat < n.toNat; omega⟩
  have hj := (joins_iff (by omega) hE (by unfold edges; rw [List.length_map]; omega)).mpr con
  obtain ⟨g, d, F⟩ := FM.all (n := n) (by omega) ps [] (start n.toNat) id _ FM.empty (by unfold start; rw [List.length_map, List.length_range]) (fun r r0 r1 => by
    unfold grp start
    rw [List.getD_eq_getElem?_getD, List.getElem?_map, List.getElem?_range (by omega)]
    show r = ((r.toNat : Nat) : Int)
    omega) ok hj
  rw [List.nil_append] at F
  have all : ∀ r, 0 ≤ r → r < n → g r = g 0 := by
    intro r r0 r1
    have := con (fun a => decide (g (a : Int) = g 0)) (fun e he => by
      obtain ⟨p, m, rfl⟩ := List.mem_map.mp he
      obtain ⟨a1, a2, a3, a4, _⟩ := ok p m
      show decide (g ((p.x.toNat : Nat) : Int) = g 0) = decide (g ((p.y.toNat : Nat) : Int) = g 0)
      rw [show ((p.x.toNat : Nat) : Int) = p.x by omega, show ((p.y.toNat : Nat) : Int) = p.y by omega, F.ends p m]) r.toNat (by omega)
    have h2 : decide (g ((r.toNat : Nat) : Int) = g 0) = decide (g ((0 : Nat) : Int) = g 0) := this
    rw [show ((r.toNat : Nat) : Int) = r by omega, show ((0 : Nat) : Int) = 0 from rfl, decide_eq_true (rfl : g 0 = g 0)] at h2
    exact of_decide_eq_true h2
  have two : ∀ s t, 0 ≤ s → s < n → 0 ≤ t → t < n → g s = g t := fun s t a b c e => (all s a b).trans (all t c e).symm
  have inx : ∀ p ∈ ps, g p.x = g 0 := fun p m => all _ (ok p m).1 (ok p m).2.1
  exact ⟨d, ok, F.zero, F.sym, fun s t a b c e => F.pos s t (two s t a b c e), fun p m s a b => F.step p m s ((all s a b).trans (inx p m).symm), fun s t a b c e => F.par s t (two s t a b c e), fun s t i j a b c e => F.uni s t i j (two s t a b c e),
    fun i j p q nij e1 e2 => F.side i j p q nij e1 e2 ((inx p (List.mem_of_getElem? e1)).trans (inx q (List.mem_of_getElem? e2)).symm)⟩
theorem Tm.nn {n : Int} {ps : List Pi} {d : Int → Int → Int} (T : Tm n ps d) {s t : Int} (a : 0 ≤ s) (b : s < n) (c : 0 ≤ t) (e : t < n) : 0 ≤ d s t := by
  by_cases h : s = t
  · subst h; rw [T.zero]; exact Int.le_refl 0
  · have := T.pos s t a b c e h; omega
end Rw

namespace Rw
open PySem PySem.Spec PyProof.Rows L2
def Pi.dat (p : Pi) : PyData := pipeD p.x p.y p.l p.na p.fl
structure Pi.ok (n : Int) (p : Pi) : Prop where
  x0 : 0 ≤ p.x
  x1 : p.x ≤ n - 1
  y0 : 0 ≤ p.y
  y1 : p.y ≤ n - 1
  xy : p.x < p.y
  fit : Fit p.l p.na p.fl
theorem ins_perm {α : Type} (xs : List α) (k : Nat) (y : α) : (xs.take k ++ [y] ++ xs.drop k).Perm (y :: xs) := by
  rw [List.append_assoc]
  refine List.perm_middle.trans ?_
  show (y :: (xs.take k ++ xs.drop k)).Perm (y :: xs)
  rw [List.take_append_drop]
theorem ins_sum {α : Type} (f : α → Nat) (xs : List α) (k : Nat) (y : α) : ((xs.take k ++ [y] ++ xs.drop k).map f).sum = f y + (xs.map f).sum := by
  have e : (xs.map f).sum = ((xs.take k).map f).sum + ((xs.drop k).map f).sum := by
    rw [← List.sum_append, ← List.map_append, List.take_append_drop]
  rw [List.map_append, List.map_append, List.sum_append, List.sum_append, e]
  simp only [List.map_cons, List.map_nil, List.sum_cons, List.sum_nil]
  omega
theorem start_succ (i : Nat) : (start (i + 1)).Perm ((i : Int) :: start i) := by
  unfold start
  rw [List.range_succ, List.map_append]
  exact List.perm_append_comm
theorem start_mem {n : Nat} {v : Int} : v ∈ start n ↔ 0 ≤ v ∧ v < n := by
  unfold start
  rw [List.mem_map]
  constructor
  · rintro ⟨a, ha, rfl⟩
    have := List.mem_range.mp ha
    exact ⟨Int.natCast_nonneg a, Int.ofNat_lt.mpr this⟩
  · rintro ⟨h0, h1⟩
    exact ⟨v.toNat, List.mem_range.mpr (by omega), by show ((v.toNat : Nat) : Int) = v; omega⟩
theorem start_nodup (n : Nat) : (start n).Nodup := by
  unfold start
  exact List.Pairwise.map _ (fun a b h q => h (Int.ofNat.inj q)) List.nodup_range
theorem perm2 {a b : Int} {ns : List Int} (h : ns.Perm [a, b]) : ns = [a, b] ∨ ns = [b, a] := by
  have hl : ns.length = 2 := h.length_eq
  match ns, hl with
  | [u, v], _ =>
    have hu : u = a ∨ u = b := by simpa using h.mem_iff.mp (List.mem_cons_self (a := u) (l := [v]))
    rcases hu with rfl | rfl
    · have := (List.perm_cons u).mp h
      have e := List.perm_singleton.mp this
      left; rw [e]
    · have h2 : [u, v].Perm [u, a] := h.trans (List.Perm.swap u a [])
      have := (List.perm_cons u).mp h2
      have e := List.perm_singleton.mp this
      right; rw [e]
section
variable {P : Program} {w : World} {K : PySem.W.Frag} {mg : Str → Option Value} {base : Heap}
abbrev sHouse : Stmt := topS 38
abbrev nHouse : List Str := ["_law_deck_here", "_law_most", "_law_far", "_law_flaps", "_law_rooms", "_law_names", "_law_room", "_law_pipes", "_law_left", "_law_k", "_law_pair", "_law_new"]
theorem scHouse : FnScope nHouse ["_law_deck_here", "_law_most", "_law_far", "_law_flaps"] (defScope sHouse) := ⟨rfl, rfl, rfl, by decide +kernel, rfl, by decide +kernel, by decide +kernel⟩
def spHouse : Sp := fun vs H Q _ => ∃ (D C R : Addr) (b most far flaps : Int) (av : List Addr), vs = [.ref D, .int most, .int far, .int flaps] ∧ 1 ≤ most ∧ most ≤ 16 ∧ (far = 0 ∨ far = 1) ∧ 0 ≤ flaps ∧ flaps ≤ 1 ∧
  Deck H D C R b ∧ b ≤ 600000000 ∧ Tr av H ∧ D ∈ av ∧ R ∈ av ∧
  ∀ H' (p : Addr) (n : Int) (ps : List Pi), Keep [D, R] H H' → Deck H' D C R (b + 2000) → 1 ≤ n → n ≤ 16 → (ps.length : Int) = n - 1 → (∀ p ∈ ps, p.ok n ∧ (far = 0 → p.l ≤ 4)) → Con n.toNat (edges ps) → (ps.map fun p => p.na.length).sum ≤ 12 → (ps.map fun p => p.fl.length).sum ≤ 6 → Dt av H' (.ref p) (houseD n (ps.map Pi.dat)) → Tr av H' → Q (.ref p) H'
theorem ok_house (h : Has K mg "_law_house" sHouse) (B : Blt mg) (CN : Can P w K mg base "_law_next" ["_law_deck_here", "_law_many"] 1 spNext)
    (CP : Can P w K mg base "_law_pipe" ["_law_deck_here", "_law_one_here", "_law_other", "_law_left", "_law_far"] 5 spPipe) : Can P w K mg base "_law_house" ["_law_deck_here", "_law_most", "_law_far", "_law_flaps"] 6 spHouse := by
  obtain ⟨f, fd, F, g⟩ := h
  refine ⟨f, fd, F.ok (k := 5) scHouse (fun vs H Q E h => ?_) (fun cdv A outer s H vs Q E hr h => ?_), g, F.kp, F.binds fun _ _ _ _ _ _ us hl => match us, hl with | [_, _, _, _], _ => rfl⟩
  · obtain ⟨D, C, R, b, most, far, flaps, av, rfl, _⟩ := h
    rfl
  · obtain ⟨D, C, R, b, most, far, flaps, av, rfl, m1, m2, hf, f0, f1, dk, hb, tr, mD, mR, q⟩ := h
    refine ⟨_, pss_cons (ps_set (i := 4) scHouse.nd rfl (.inl rfl) (pe_op op_add pe_int (pe_can CN (hr.mono (by decide)) (by rfl) (pa_cons (pv 0) (pa_cons (pv 1) pa_nil)))))
      (pss_cons (ps_set (i := 5) scHouse.nd rfl (.inl rfl) (pe_lst pa_nil))
      (pss_cons (ps_for PassesOwn.never rfl (pi_range1 (by rfl) B.range_ (pa_cons (pv 4) pa_nil)) (pg_name (i := 6) scHouse.nd rfl (Or.inl rfl))
        (pss_one (ps_expr (pe_bm PySem.F.plainAttrs_list PySem.F.slot_list_insert PySem.F.type_list_insert mt_insert (pv 5) (pa_cons (pe_can CN (hr.mono (by decide)) (by rfl) (pa_cons (pv 0) (pa_cons (pe_op op_add (pv 6) pe_int) pa_nil))) (pa_cons (pv 6) pa_nil))))))
      (pss_cons (ps_set (i := 7) scHouse.nd rfl (.inl rfl) (pe_lst pa_nil))
      (pss_cons (ps_set (i := 8) scHouse.nd rfl (.inl rfl) (pe_lst (pa_cons pe_int (pa_cons (pe_op op_mul pe_int (pv 3)) pa_nil))))
      (pss_cons (ps_for PassesOwn.never rfl (pi_range2 (by rfl) B.range_ (pa_cons pe_int (pa_cons (pv 4) pa_nil))) (pg_name (i := 9) scHouse.nd rfl (Or.inl rfl))
        (pss_cons (ps_set (i := 10) scHouse.nd rfl (.inl rfl) (pe_callB cr_sorted (by rfl) B.sorted_ boot_sorted (pa_cons (pe_lst (pa_cons (pe_ix ix_list (pv 5) (pe_can CN (hr.mono (by decide)) (by rfl) (pa_cons (pv 0) (pa_cons (pv 9) pa_nil))) (fun _ _ => rfl)) (pa_cons (pe_ix ix_list (pv 5) (pv 9) (fun _ _ => rfl)) pa_nil))) pa_nil)))
        (pss_cons (ps_set (i := 11) scHouse.nd rfl (.inl rfl) (pe_can CP hr (by rfl) (pa_cons (pv 0) (pa_cons (pe_ix ix_list (pv 10) pe_int (fun _ _ => rfl)) (pa_cons (pe_ix ix_list (pv 10) pe_int (fun _ _ => rfl)) (pa_cons (pv 8) (pa_cons (pv 2) pa_nil)))))))
        (pss_one (ps_expr (pe_bm PySem.F.plainAttrs_list PySem.F.slot_list_insert PySem.F.type_list_insert mt_insert (pv 7) (pa_cons (pe_can CN (hr.mono (by decide)) (by rfl) (pa_cons (pv 0) (pa_cons (pv 9) pa_nil))) (pa_cons (pv 11) pa_nil))))))))
      (pss_one (ps_ret (pe_tup (pa_cons (pv 4) (pa_cons (pe_callTy call_tuple_of (by rfl) B.tuple_ boot_tuple (pa_cons (pv 7) pa_nil)) pa_nil)))))))))), ?_⟩
    refine ⟨.ref D, rfl, .int most, rfl, D, C, R, b, most, rfl, m1, by omega, dk, by omega, fun H1 k1 kp1 dk1 a1 a2 => ?_⟩
    refine ⟨1, k1, rfl, rfl, ?_⟩
    have hn1 : 1 ≤ 1 + k1 := by omega
    have hn2 : 1 + k1 ≤ 16 := by omega
    dsimp only
    generalize 1 + k1 = n at hn1 hn2
    refine ⟨show 0 ≤ sizeLine by decide, fun Nn nN => ?_⟩
    have zN := dk1.ne nN
    refine ⟨.int n, rfl, n, rfl, by omega, by omega, for_range (lo := 0) (n := n.toNat)
      (fun i σ G => ∃ s6, σ = [some (.ref D), some (.int most), some (.int far), some (.int flaps), some (.int n), some (.ref Nn), s6, none, none, none, none, none] ∧ Keep [D, R] H1 G ∧ Deck G D C R (b + 1 + i) ∧ ∃ ms : List Int, ms.Perm (start i) ∧ G Nn = some (.lst (ms.map V.int)))
      ⟨none, rfl, Keep.new nN, (dk1.new nN).mono (by omega), [], List.Perm.refl _, upd_same⟩ (fun i σ G hi p => ?_) (fun σ G p => ?_)⟩
    · obtain ⟨s6, rfl, k2, d2, ms, pm, e2⟩ := p
      have l2 : ms.length = i := by rw [pm.length_eq]; unfold start; rw [List.length_map, List.length_range]
      refine ⟨.ref Nn, rfl, .inl ⟨rfl, _, SqL.of e2⟩, .ref D, rfl, .int (0 + (i : Int)), rfl, _, 1, rfl, rfl, D, C, R, _, _, rfl, by omega, by omega, d2, by omega, fun G2 k kp d3 b1 b2 => ?_⟩
      have e3 := kp Nn _ e2 (notDR zN.1 zN.2.2)
      refine ⟨.int (0 + (i : Int)), rfl, Nn, ms.map V.int, k, .int (0 + (i : Int)), rfl, rfl, e3, by rw [List.length_map, l2]; exact small1000 (by omega), b1, by omega, ?_⟩
      refine ⟨some (.int (0 + (i : Int))), rfl, (k2.trans kp).upd nN, (d3.other zN.1 zN.2.1 zN.2.2).mono (by omega), ms.take k.toNat ++ [0 + (i : Int)] ++ ms.drop k.toNat, ?_, ?_⟩
      · refine (ins_perm ms k.toNat _).trans ?_
        rw [Int.zero_add]
        exact (List.Perm.cons _ pm).trans (start_succ i).symm
      · rw [upd_same, List.map_append, List.map_append, List.map_take, List.map_drop]; rfl
    · obtain ⟨s6, rfl, k2, d2, ms, pm0, e2⟩ := p
      have l2 : ms.length = n.toNat := by rw [pm0.length_eq]; unfold start; rw [List.length_map, List.length_range]
      have c2 : ∀ v ∈ ms, 0 ≤ v ∧ v < n := fun v hv => by have := start_mem.mp (pm0.mem_iff.mp hv); omega
      have nd2 : ms.Nodup := pm0.nodup_iff.mpr (start_nodup _)
      refine ⟨show 0 ≤ sizeLine by decide, fun Pp nP => ?_⟩
      have zP := d2.ne nP
      refine ⟨.int flaps, rfl, 6, flaps, rfl, rfl, .inl ⟨by decide, by decide⟩, show 2 ≤ sizeLine by decide, fun L nL => ?_⟩
      have d3 := d2.new (o := .lst []) nP
      have zL := d3.ne nL
      have d4 : Deck (upd (upd G Pp (.lst [])) L (.lst [.int 12, .int (6 * flaps)])) D C R (b + 1 + 16) := (d3.new nL).mono (by omega)
      have nPN : Pp ≠ Nn := (ne_of_none e2 nP).symm
      have e3 : (upd G Pp (.lst [])) Nn = some (.lst (ms.map V.int)) := by rw [upd_ne nPN.symm]; exact e2
      have nLN : L ≠ Nn := (ne_of_none e3 nL).symm
      have nLP : L ≠ Pp := (ne_of_none (upd_same (H := G) (a := Pp) (o := .lst [])) nL).symm
      have k3 : Keep [D, R] H (upd (upd G Pp (.lst [])) L (.lst [.int 12, .int (6 * flaps)])) := kp1.trans (k2.trans ((Keep.new nP).trans (Keep.new nL)))
      have eL3 : (upd (upd G Pp (.lst [])) L (.lst [.int 12, .int (6 * flaps)])) L = some (.lst [.int 12, .int (6 * flaps)]) := upd_same
      have eP3 : (upd (upd G Pp (.lst [])) L (.lst [.int 12, .int (6 * flaps)])) Pp = some (.lst []) := by rw [upd_ne nLP.symm]; exact upd_same
      have eN3 : (upd (upd G Pp (.lst [])) L (.lst [.int 12, .int (6 * flaps)])) Nn = some (.lst (ms.map V.int)) := by rw [upd_ne nLN.symm]; exact e3
      have tr3 : Tr (L :: Nn :: Pp :: av) (upd (upd G Pp (.lst [])) L (.lst [.int 12, .int (6 * flaps)])) := (((tr.keep k3 d4).cons eP3).cons eN3).cons eL3
      have fN : H Nn = none := kp1.free dk1 nN
      have fP : H Pp = none := (kp1.trans k2).free d2 nP
      have fL : H L = none := by
        have z : Keep [D, R] H (upd G Pp (.lst [])) := kp1.trans (k2.trans (Keep.new nP))
        exact z.free d3 nL
      have t6 : (6 * flaps : Int) ≤ 100 := by omega
      have t7 : (0 : Int) ≤ 6 * flaps := by omega
      have t9 : 6 * flaps ≤ 6 := by omega
      dsimp only
      generalize hG0 : upd (upd G Pp (.lst [])) L (.lst [.int 12, .int (6 * flaps)]) = G0 at *
      generalize 6 * flaps = fm at *
      refine ⟨.int n, rfl, 1, n, rfl, ⟨by decide, by decide, by omega, by omega⟩, for_range (lo := 1) (n := (n - 1).toNat)
        (fun i σ J => ∃ s9 s10 s11, σ = [some (.ref D), some (.int most), some (.int far), some (.int flaps), some (.int n), some (.ref Nn), s6, some (.ref Pp), some (.ref L), s9, s10, s11] ∧
          Keep [D, R] H J ∧ Deck J D C R (b + 17 + 62 * i) ∧ J Nn = some (.lst (ms.map V.int)) ∧ Tr (L :: Nn :: Pp :: av) J ∧ ∃ (ps : List Pi) (us : List V), (∃ l0 l1 : Int, J L = some (.lst [.int l0, .int l1]) ∧ 0 ≤ l0 ∧ 0 ≤ l1 ∧ l0 + ((ps.map fun p => p.na.length).sum : Nat) = 12 ∧ l1 + ((ps.map fun p => p.fl.length).sum : Nat) = fm) ∧ (∀ S : Nat → Bool, (∀ p ∈ ps, S p.x.toNat = S p.y.toNat) → ∀ j : Nat, j ≤ i → S (grp ms j).toNat = S (grp ms 0).toNat) ∧ ps.length = i ∧ (∀ p ∈ ps, p.ok n ∧ (far = 0 → p.l ≤ 4)) ∧ J Pp = some (.lst us) ∧ Dts (L :: Nn :: Pp :: av) J us (ps.map Pi.dat))
        ⟨none, none, none, rfl, k3, d4.mono (by omega), eN3, tr3, [], [], ⟨12, fm, eL3, by decide, t7, by decide, by show fm + 0 = fm; omega⟩, fun S _ j hj => by rw [show j = 0 by omega], rfl, fun _ z => absurd z List.not_mem_nil, eP3, .nil⟩ (fun i σ J hi p => ?_) (fun σ J p => ?_)⟩
      · obtain ⟨s9, s10, s11, rfl, k4, d4, eN, tr4, ps, us, ⟨l0, l1, eL, p0, p1, p2, p3⟩, hcon, lps, okp, eP, dts⟩ := p
        have msl : ms.length = n.toNat := l2
        refine ⟨.ref Nn, rfl, .ref D, rfl, .int (1 + (i : Int)), rfl, D, C, R, _, _, rfl, by omega, by omega, d4, by omega, fun J2 k kp d5 b1 b2 => ?_⟩
        have eN2 := kp Nn _ eN (notDR zN.1 zN.2.2)
        have q1 : (ms.map V.int)[k.toNat]? = some (.int (ms[k.toNat]'(by omega))) := by
          rw [List.getElem?_map, List.getElem?_eq_getElem (by omega)]; rfl
        have q2 : (ms.map V.int)[(1 + (i : Int)).toNat]? = some (.int (ms[(1 + (i : Int)).toNat]'(by omega))) := by
          rw [List.getElem?_map, List.getElem?_eq_getElem (by omega)]; rfl
        refine ⟨Nn, _, k, _, rfl, rfl, SqL.of eN2, atI_of b1 q1, .ref Nn, rfl, .int (1 + (i : Int)), rfl, Nn, _, _, _, rfl, rfl, SqL.of eN2, atI_of (by omega) q2, show 2 ≤ sizeLine by decide, fun a6 n6 => ?_⟩
        have cu := c2 _ (List.getElem_mem (l := ms) (n := k.toNat) (by omega))
        have cv := c2 _ (List.getElem_mem (l := ms) (n := (1 + (i : Int)).toNat) (by omega))
        have guv : grp ms k.toNat = ms[k.toNat]'(by omega) := by unfold grp; rw [List.getD_eq_getElem?_getD, List.getElem?_eq_getElem (by omega)]; rfl
        have gvv : grp ms (i + 1) = ms[(1 + (i : Int)).toNat]'(by omega) := by
          have ez : (1 + (i : Int)).toNat = i + 1 := by omega
          unfold grp; rw [List.getD_eq_getElem?_getD, ← ez, List.getElem?_eq_getElem (by omega)]; rfl
        have nuv : ms[k.toNat]'(by omega) ≠ ms[(1 + (i : Int)).toNat]'(by omega) := (List.pairwise_iff_getElem.mp nd2) k.toNat (1 + (i : Int)).toNat (by omega) (by omega) (by omega)
        have kle : k.toNat ≤ i := by omega
        generalize ms[k.toNat]'(by omega) = u at cu guv nuv
        generalize ms[(1 + (i : Int)).toNat]'(by omega) = v at cv gvv nuv
        refine ⟨a6, [u, v], rfl, SqL.of upd_same, show 2 < 64 by decide, fun ns a7 pm pw n7 => ?_⟩
        obtain ⟨x, y, rfl, hx, hy, hxy, hS⟩ : ∃ x y, ns = [x, y] ∧ (0 ≤ x ∧ x < n) ∧ (0 ≤ y ∧ y < n) ∧ x < y ∧ ∀ S : Nat → Bool, S x.toNat = S y.toNat → S u.toNat = S v.toNat := by
          rcases perm2 pm with e | e
          · have le : u ≤ v := by rw [e] at pw; simpa using pw
            exact ⟨u, v, e, cu, cv, by omega, fun S h => h⟩
          · have le : v ≤ u := by rw [e] at pw; simpa using pw
            exact ⟨v, u, e, cv, cu, by omega, fun S h => h.symm⟩
        have k5 : Keep [D, R] J (upd (upd J2 a6 (.lst [.int u, .int v])) a7 (.lst [.int x, .int y])) := kp.trans ((Keep.new n6).trans (Keep.new n7))
        have d6 : Deck (upd (upd J2 a6 (.lst [.int u, .int v])) a7 (.lst [.int x, .int y])) D C R (b + 17 + 62 * i + 1) := (d5.new n6).new n7
        have e7 : (upd (upd J2 a6 (.lst [.int u, .int v])) a7 (.lst [.int x, .int y])) a7 = some (.lst [.int x, .int y]) := upd_same
        show (_ : Prop)
        have hJ3 : upd (upd J2 a6 (.lst [.int u, .int v])) a7 (.lst ([x, y].map V.int)) = upd (upd J2 a6 (.lst [.int u, .int v])) a7 (.lst [.int x, .int y]) := rfl
        rw [hJ3]
        generalize upd (upd J2 a6 (.lst [.int u, .int v])) a7 (.lst [.int x, .int y]) = J3 at k5 d6 e7 ⊢
        have eL3 := k5 L _ eL (notDR zL.1 zL.2.2)
        have tr5 := tr4.keep k5 d6
        refine ⟨.ref D, rfl, .ref a7, rfl, a7, _, 0, .int x, rfl, rfl, SqL.of e7, atI_nat (j := 0) rfl, .ref a7, rfl, a7, _, 1, .int y, rfl, rfl, SqL.of e7, atI_nat (j := 1) rfl, .ref L, rfl, .int far, rfl,
          D, C, R, L, _, x, y, l0, l1, far, L :: Nn :: Pp :: av, rfl, eL3, p0, p1, by omega, by omega, zL.1, zL.2.1, zL.2.2, hf, d6, by omega, tr5, by simp [mD], by simp [mR], by simp, fun J4 pa l na fl k6 d7 eL4 g1 g2 fit hl4 dp tr6 => ?_⟩
        have sub : ∀ z ∈ [D, R, L], z ∈ L :: Nn :: Pp :: av := by
          intro z hz
          simp only [List.mem_cons, List.not_mem_nil, or_false] at hz ⊢
          rcases hz with hz | hz | hz
          · subst hz; simp [mD]
          · subst hz; simp [mR]
          · subst hz; simp
        have sub2 : ∀ z ∈ [D, R], z ∈ L :: Nn :: Pp :: av := by
          intro z hz
          exact sub z (by simp only [List.mem_cons, List.not_mem_nil, or_false] at hz ⊢; rcases hz with hz | hz <;> simp [hz])
        have dts3 := (dts.keep (k5.mono sub2)).keep (k6.mono sub)
        have not3 : ∀ {z : Addr}, z ≠ D → z ≠ R → z ≠ L → z ∉ [D, R, L] := fun {z} h1 h2 h3 m => by
          simp only [List.mem_cons, List.not_mem_nil, or_false] at m
          rcases m with m | m | m
          · exact h1 m
          · exact h2 m
          · exact h3 m
        have eP4 := k6 Pp _ (k5 Pp _ eP (notDR zP.1 zP.2.2)) (not3 zP.1 zP.2.2 nLP.symm)
        have eN4 := k6 Nn _ (k5 Nn _ eN (notDR zN.1 zN.2.2)) (not3 zN.1 zN.2.2 nLN.symm)
        refine ⟨.ref Pp, rfl, .inl ⟨rfl, _, SqL.of eP4⟩, .ref D, rfl, .int (1 + (i : Int)), rfl, D, C, R, _, _, rfl, by omega, by omega, d7, by omega, fun J5 k' kp' d8 b3 b4 => ?_⟩
        have eP5 := kp' Pp _ eP4 (notDR zP.1 zP.2.2)
        have ul : us.length = i := by rw [dts.len, List.length_map, lps]
        refine ⟨.ref pa, rfl, Pp, us, k', .ref pa, rfl, rfl, eP5, by rw [ul]; exact small1000 (by omega), b3, by omega, ?_⟩
        have k7 : Keep [D, R] J3 J5 → True := fun _ => trivial
        have dts5 := dts3.keep (kp'.mono sub2)
        have dp5 := dp.keep (kp'.mono sub2)
        have kH : Keep [D, R] H J5 := by
          intro z o ez nz
          have z1 := k5 z o (k4 z o ez nz) nz
          have zl : z ≠ L := ne_of_none ez fL
          have z2 := k6 z o z1 (by
            intro m
            simp only [List.mem_cons, List.not_mem_nil, or_false] at m nz
            rcases m with m | m | m
            · exact nz (.inl m)
            · exact nz (.inr m)
            · exact zl m)
          exact kp' z o z2 nz
        refine ⟨_, _, _, rfl, kH.upd fP, (d8.other zP.1 zP.2.1 zP.2.2).mono (by omega), ?_, (tr6.keep kp' d8).upd, ps.take k'.toNat ++ [⟨x, y, l, na, fl⟩] ++ ps.drop k'.toNat, us.take k'.toNat ++ [.ref pa] ++ us.drop k'.toNat, ⟨l0 - na.length, l1 - fl.length, ?_, by omega, by omega, by rw [ins_sum]; show l0 - (na.length : Int) + ((na.length + _ : Nat) : Int) = 12; omega, by rw [ins_sum]; show l1 - (fl.length : Int) + ((fl.length + _ : Nat) : Int) = fm; omega⟩, ?_, ?_, ?_, upd_same, ?_⟩
        · rw [upd_ne nPN.symm]; exact kp' Nn _ eN4 (notDR zN.1 zN.2.2)
        · rw [upd_ne nLP]; exact kp' L _ eL4 (notDR zL.1 zL.2.2)
        · intro S h j hj
          have ip := ins_perm ps k'.toNat (⟨x, y, l, na, fl⟩ : Pi)
          have h1 := hS S (h ⟨x, y, l, na, fl⟩ (ip.mem_iff.mpr List.mem_cons_self))
          have h2 := hcon S fun p m => h p (ip.mem_iff.mpr (List.mem_cons_of_mem _ m))
          by_cases hj' : j ≤ i
          · exact h2 j hj'
          · rw [show j = i + 1 by omega, gvv, ← h1, ← guv]
            exact h2 _ kle
        · rw [List.length_append, List.length_append, List.length_take, List.length_drop, List.length_singleton]; omega
        · intro z hz
          rcases List.mem_append.mp hz with hz | hz
          · rcases List.mem_append.mp hz with hz | hz
            · exact okp z (List.mem_of_mem_take hz)
            · rw [List.mem_singleton.mp hz]
              exact ⟨⟨hx.1, by show x ≤ n - 1; omega, hy.1, by show y ≤ n - 1; omega, hxy, fit⟩, hl4⟩
          · exact okp z (List.mem_of_mem_drop hz)
        · rw [List.map_append, List.map_append, List.map_take, List.map_drop]
          exact (((dts5.take _).app (.cons dp5 .nil)).app (dts5.drop _)).keep (Keep.put (by simp))
      · obtain ⟨s9, s10, s11, rfl, k4, d4, eN, tr4, ps, us, ⟨l0, l1, eL, p0, p1, p2, p3⟩, hcon, lps, okp, eP, dts⟩ := p
        refine ⟨.int n, rfl, .ref Pp, rfl, Pp, us, rfl, .inl ⟨SqL.of eP, fun T nT => ?_⟩⟩
        refine ⟨show 2 ≤ sizeLine by decide, fun p np => ?_⟩
        have tav : Tr av J := fun a m => tr4 a (by simp [m])
        have dT : Dt av (upd J T (.tup us)) (.ref T) (.tuple (ps.map Pi.dat)) := .tup (tav.not nT) upd_same ((dts.keep (Keep.new nT)).less fun a m => by simp [m])
        refine q _ p n ps (k4.trans ((Keep.new nT).trans (Keep.new np))) (((d4.new nT).new np).mono (by omega)) hn1 hn2 (by omega) okp ?_ (by omega) (by omega) ?_ (tav.upd).upd
        · intro S hE a ha
          have h2 := hcon S fun p m => hE (p.x.toNat, p.y.toNat) (List.mem_map.mpr ⟨p, m, rfl⟩)
          have at_ : ∀ c : Nat, c < n.toNat → S c = S (grp ms 0).toNat := fun c hc => by
            obtain ⟨j, hj, e⟩ := mem_grp (pm0.mem_iff.mpr (start_mem.mpr ⟨Int.natCast_nonneg c, by omega⟩ : (c : Int) ∈ start n.toNat))
            have z := h2 j (by omega)
            rw [e] at z
            exact z
          rw [at_ a ha, at_ 0 (by omega)]
        exact .tup ((tav.upd).not np) upd_same (.cons (.int n) (.cons (dT.keep (Keep.new np)) .nil))
end
end Rw

namespace Rw
open PySem PySem.Spec PyProof.Rows L2
/-! ### enumerate(t) of a tuple -/
theorem enumNew {v : Value} {o : Obj} {G : Heap → Prop} (B : Begins v o G) : Meets (Builtin.«enumerate.__new__» ⟨[.type "enumerate", v], []⟩) (fun _ R s => G s.heap ∧ R (.ok (.ret (.ref (s.heap.push o).objs.size)))
    { s with heap := (s.heap.push o).push { cls := .type "enumerate", data := .fields #[.none, .bool false, .ref s.heap.objs.size, rawInt 0, .none, .none] } }) :=
  .of_wp fun prog w A R s h => by
    obtain ⟨hp, g, d, tk, os⟩ := s
    obtain ⟨gh, rest⟩ := h
    have sub0 := sub_enumerate
    have it1 : ∀ {A' : Around} {E : Value → Shared → Prop} {Q : Value → Shared → Prop}, Q (.ref hp.objs.size) ⟨hp.push o, g, d, tk, os⟩ → wpAny (model prog w) A' (pyIter v) Q E ⟨hp, g, d, tk, os⟩ := fun q => B.iter prog w _ _ ⟨hp, g, d, tk, os⟩ _ gh q
    wp_walk using it1
    refine wpAny_stack_any (fun z => wpAny_pure ?_)
    split
    · rename_i cc _ _ _ _ _
      cases (cc == Value.type "enumerate") <;> (wp_walk using it1; exact ⟨_, rfl, rest⟩)
    · wp_walk using it1
      exact ⟨_, rfl, rest⟩
theorem enumCall {prog : Program} {w : World} {A : Around} {E : Value → Shared → Prop} {s : Shared} {v : Value} {o : Obj} {G : Heap → Prop} {Q : Value → Shared → Prop} (B : Begins v o G) (hg : G s.heap)
    (h : ∀ h', IsEnum h' (s.heap.objs.size + 1) s.heap.objs.size 0 .none → h'.get? s.heap.objs.size = some o → h'.objs.size = s.heap.objs.size + 2 → (∀ b o, s.heap.get? b = some o → h'.get? b = some o) → Q (.ref (s.heap.objs.size + 1)) { s with heap := h' }) :
    wpAny (model prog w) A (call (.type "enumerate") [v]) Q E s := by
  refine callType_new F.called_enumerate (by decide) (F.typeCall_enumerate_1 _) (F.newCall_enumerate_1 _) (fun obj => F.args_object_init_2 obj _) F.entry_enumerate_new (enumNew B) ⟨hg, ?_⟩
  have z : (s.heap.push o).objs.size = s.heap.objs.size + 1 := Heap.size_push ..
  show _ ∧ _
  rw [z]
  have e : IsEnum ((s.heap.push o).push { cls := .type "enumerate", data := .fields #[.none, .bool false, .ref s.heap.objs.size, rawInt 0, .none, .none] }) (s.heap.objs.size + 1) s.heap.objs.size 0 .none := by
    have y := Heap.get?_push_size (s.heap.push o) (o := { cls := .type "enumerate", data := .fields #[.none, .bool false, .ref s.heap.objs.size, rawInt 0, .none, .none] }) rfl
    rw [z] at y
    exact y
  exact ⟨⟨_, e, rfl⟩, h _ e (Heap.get?_push_of_some _ (Heap.get?_push_size _ B.free)) (by rw [Heap.size_push, z]) (fun b o x => Heap.get?_push_of_some _ (Heap.get?_push_of_some _ x))⟩
/-- the tuple at a, each item in a new pair -/
def IteT (K : PySem.W.Frag) (a : Addr) : It :=
  ⟨fun i H => ∃ (xs : List V) (x : V), SqT K H a xs ∧ xs[i]? = some x, fun i H v H' => ∃ T x, v = .ref T ∧ H T = none ∧ H' = upd H T (.tup [.int (i : Nat), x]) ∧ ∀ xs, SqT K H a xs → xs[i]? = some x, fun i H => ∃ xs : List V, SqT K H a xs ∧ xs.length ≤ i⟩
theorem turn_enumT {P : Program} {w : World} {K : PySem.W.Frag} {elts : List Expr} {kk : Nat} {tpos : Pos} (a e it : Addr) :
    Turn P w K (.Tuple elts kk tpos) (IteT K a) [e, it] e (fun i h => (∃ old, IsEnum h e it ((i : Nat) : Int) old) ∧ h.IsTupleIter it a i ∧ e ≠ it ∧ a ≠ it ∧ a ≠ e) where
  mem := by simp
  obj := fun i h st b hb => by
    obtain ⟨⟨old, he⟩, ⟨o, ho, oc, od⟩, _⟩ := st
    rcases (show b = e ∨ b = it by simpa using hb) with rfl | rfl
    · exact ⟨_, he, fun v q => nomatch q⟩
    · exact ⟨o, ho, fun v q => by rw [od] at q; cases q⟩
  keep := fun i h h' st k => let ⟨⟨old, he⟩, hi, r⟩ := st; ⟨⟨old, k e (by simp) _ he⟩, hi.at fun o q => k it (by simp) o q, r⟩
  item := by
    intro X hP hw hK hc i pins s σ H E I hf st hg
    subst hP hw hK
    obtain ⟨⟨old, he⟩, hit, nei, nai, nae⟩ := st
    obtain ⟨xs, x, sq, gx⟩ := hg
    obtain ⟨its, rv, tp, _⟩ := I.tuple sq
    obtain ⟨u, gu, ru⟩ := rv.get gx
    have eb : e < s.heap.objs.size := Heap.lt_size he
    have ib : it < s.heap.objs.size := by obtain ⟨_, q, _⟩ := hit; exact Heap.lt_size q
    have ub : i < its.toArray.size := by simpa using (List.getElem?_eq_some_iff.mp gu).1
    refine wpAny_pyNext_enum_itemD (Draws.tuple (A := X.A.in1) (I.ok.hd hc) it a nai its.toArray) he ⟨hit, tp⟩ ub nei (by simp [nei, nae.symm]) (fun y h' tk gy ho st' hT hsz hk => ?_)
    have ey : y = u := by
      have z : its[i]? = some y := by simpa using gy
      rw [gu] at z; cases z; rfl
    subst ey
    refine ⟨_, rfl, wpAny_letOwnedTupleGo_enum (s := { s with heap := h', toks := tk + 1 }) ho fun h2 he2 sb => ?_⟩
    have hT2 : h2.get? s.heap.objs.size = some { cls := .type "tuple", data := .seq #[.int i tk, y] } := (sb.2 _ (Nat.ne_of_gt eb)).trans hT
    have ob : ObjOk X.prog X.w (upd H s.heap.objs.size (.tup [.int (i : Nat), x])) h2 s.heap.objs.size (.tup [.int (i : Nat), x]) := ⟨by show 2 ≤ sizeLine; decide, [.int i tk, y], .cons ⟨_, rfl⟩ (.cons ru .nil), ⟨_, hT2, rfl, _, rfl⟩⟩
    have J : Inv X pins σ (upd H s.heap.objs.size (.tup [.int (i : Nat), x])) { s with heap := h2, toks := tk + 1 } :=
      I.turnedNew (ch := [e, it]) (fun b q hb z => (sb.2 b (fun w => hb (by simp [w]))).trans (hk b q (fun w => hb (by simp [w])) (fun w => hb (by simp [w])) z)) hf (Nat.le_refl _) ob
    refine ⟨.ref s.heap.objs.size, _, J, rfl, ⟨_, x, rfl, I.hok.fresh (Nat.le_refl _), rfl, fun ys hy => by rw [I.tuple_inj hy sq]; exact gx⟩, ⟨⟨y, ?_⟩, st'.1.at fun o q => (sb.2 it nei.symm).trans q, nei, nai, nae⟩, fun b hb => ?_⟩
    · rw [show ((i + 1 : Nat) : Int) = (i : Int) + 1 by omega]; exact he2
    · have b1 : b < s.heap.objs.size := by
        rcases (show b = e ∨ b = it by simpa using hb) with rfl | rfl
        · exact eb
        · exact ib
      rw [upd_ne (Nat.ne_of_lt b1)]
      exact (hf b hb).1
  done := by
    intro X hP hw hK hc i pins s σ H E I hf st hg
    subst hP hw hK
    obtain ⟨⟨old, he⟩, hit, nei, nai, nae⟩ := st
    obtain ⟨xs, sq, lx⟩ := hg
    obtain ⟨its, rv, tp, _⟩ := I.tuple sq
    obtain ⟨f0, f1, f2, f3, f4, f5⟩ := hf it (by simp)
    have ln := rv.length
    have D := Draws.tuple (prog := X.prog) (w := X.w) (A := X.A.in1) (I.ok.hd hc) it a nai its.toArray
    unfold pyNext
    refine wpAny_bind (wpAny_attempt (wpAny_callSpecial?_slot (name := Str.ofString "__next__") (s := s) (⟨_, he, rfl⟩ : s.TypeIs (.ref e) "enumerate") F.slot_enumerate_next (wpAny_call_entry F.slot_enumerate_next ⟨_, he, rfl⟩ F.entry_enumerate_next ?_ (F.args_enumerate_next_1 _))))
    show wpAny _ _ (field (.ref e) 2 >>= _) _ _ _
    refine wpAny_bind (wpAny_field he rfl (x := .ref it) rfl (wpAny_bind (wpAny_nextOf_tuple_end (I.ok.hd hc) hit tp (by simp; omega) fun h' x eb ⟨o, ho, oc⟩ => ?_)))
    refine wpAny_bind (wpAny_isInstance (T := "StopIteration") (b := true) ⟨o, ho, oc⟩ isSubtype_stop (wpAny_pure ⟨rfl, ?_⟩))
    exact I.turned (t' := s.toks) (fun b o hb q => eb b o hb q) f0 f1 f3 f4 f5
  self := fun A i s Q E st h => let ⟨⟨_, he⟩, _⟩ := st; wpAny_pyIter_enum he h
def iEnumT (K : PySem.W.Frag) (ta : TA) : TI := fun σ H R => ta σ H fun vs H1 => ∃ a xs, vs = [.ref a] ∧ SqT K H1 a xs ∧ R (IteT K a) H1
theorem pi_enumT {X : Cx} {e : Expr} {ta : TA} {p pos tpos : Pos} {elts : List Expr} {kk : Nat} (hg : Gl X "enumerate") (hm : X.mg "enumerate" = none) (ha : PA X [e] ta) (hs : starEach [e] X.env = [(false, eval e X.env)] := by rfl) :
    PI X (.Tuple elts kk tpos) (.Call (.Name "enumerate" p) [e] [] pos) (iEnumT X.K ta) := by
  refine ⟨fun pins s σ H R I h => Call_ (ld_blt I hg hm boot_enumerate (PyProof.Rows.callWith_type1 (thn (ha.run pos pins s σ H _ I h) fun us s1 ⟨vs, H1, I1, r1, q1⟩ => ?_) hs rfl))⟩
  obtain ⟨a, xs, rfl, sq, q⟩ := q1
  cases r1 with
  | cons r rr =>
    cases rr
    cases r
    obtain ⟨its, rv, tp, _⟩ := I1.tuple sq
    have al : a < s1.heap.objs.size := by obtain ⟨_, z, _⟩ := (id tp : Heap.IsTuple _ _ _); exact Heap.lt_size z
    refine enumCall (begins_tuple a its.toArray) tp (fun h' he hit hsz hk => wpAny_pyIter_enum he ?_)
    refine ⟨s1.heap.objs.size + 1, [s1.heap.objs.size + 1, s1.heap.objs.size], _, _, H1, rfl, I1.kept (t' := s1.toks) hk, turn_enumT a (s1.heap.objs.size + 1) s1.heap.objs.size, ⟨⟨.none, he⟩, ⟨_, hit, rfl, rfl⟩, Nat.succ_ne_self _, Nat.ne_of_lt al, Nat.ne_of_lt (Nat.lt_succ_of_lt al)⟩, fun b hb => ?_, q⟩
    have le : s1.heap.objs.size ≤ b := by
      rcases (show b = s1.heap.objs.size + 1 ∨ b = s1.heap.objs.size by simpa using hb) with z | z <;> rw [z]
      · exact Nat.le_add_right _ _
      · exact Nat.le_refl _
    exact I1.fpOk le (I1.hok.fresh le)
end Rw

namespace Rw
open PySem PySem.Spec PyProof.Rows L2
/-! ### min of a list of tuples of ints -/
def tupI (ns : List Int) : PyData := .tuple (ns.map .int)
def minL (ns : List Int) (nss : List (List Int)) : List Int := nss.foldl (fun a y => if PySem.W.listLt y a = true then y else a) ns
theorem tupI_toD (ns : List Int) : tupI ns = PySem.W.Datum.toD (⟨ns⟩ : PySem.W.Tup Int) := by
  show PyData.tuple (ns.map .int) = PyData.tuple (ns.map PySem.W.Datum.toD)
  rfl
theorem minL_fold (ns : List Int) : ∀ nss : List (List Int), (nss.map fun x => (⟨x⟩ : PySem.W.Tup Int)).foldl (fun a y => if PySem.W.listLt y.items a.items = true then y else a) ⟨ns⟩ = (⟨minL ns nss⟩ : PySem.W.Tup Int) := by
  intro nss
  unfold minL
  induction nss generalizing ns with
  | nil => rfl
  | cons y r ih =>
    rw [List.map_cons, List.foldl_cons, List.foldl_cons]
    by_cases h : PySem.W.listLt y ns = true
    · rw [if_pos h, if_pos h]; exact ih y
    · rw [if_neg h, if_neg h]; exact ih ns
theorem minD_minL (ns : List Int) (nss : List (List Int)) : PySem.W.minD (tupI ns) (nss.map tupI) = tupI (minL ns nss) := by
  have e : nss.map tupI = (nss.map fun x => (⟨x⟩ : PySem.W.Tup Int)).map PySem.W.Datum.toD := by
    rw [List.map_map]; exact List.map_congr_left fun x _ => tupI_toD x
  rw [tupI_toD, e, PySem.W.minD_map, tupI_toD]
  exact congrArg PySem.W.Datum.toD (minL_fold ns nss)
theorem minL_mem (ns : List Int) : ∀ nss : List (List Int), minL ns nss ∈ ns :: nss := by
  intro nss
  unfold minL
  induction nss generalizing ns with
  | nil => exact List.mem_cons_self
  | cons y r ih =>
    rw [List.foldl_cons]
    by_cases h : PySem.W.listLt y ns = true
    · rw [if_pos h]; exact List.mem_cons_of_mem _ (ih y)
    · rw [if_neg h]
      rcases List.mem_cons.mp (ih ns) with e | e
      · rw [e]; exact List.mem_cons_self
      · exact List.mem_cons_of_mem _ (List.mem_cons_of_mem _ e)
theorem lt_head {a b : Int} {x y : List Int} : (PySem.W.listLt (a :: x) (b :: y) = true → a ≤ b) ∧ (¬ PySem.W.listLt (a :: x) (b :: y) = true → b ≤ a) := by
  have u : PySem.W.listLt (a :: x) (b :: y) = if a = b then PySem.W.listLt x y else PySem.W.DatumOrd.lt a b := rfl
  have v : PySem.W.DatumOrd.lt a b = decide (a < b) := rfl
  rw [u, v]
  by_cases h : a = b
  · rw [if_pos h]; exact ⟨fun _ => by omega, fun _ => by omega⟩
  · rw [if_neg h]; exact ⟨fun z => by have := of_decide_eq_true z; omega, fun z => by have := of_decide_eq_false (Bool.eq_false_iff.mpr z); omega⟩
theorem minL_head : ∀ (nss : List (List Int)) (ns : List Int), (∀ y ∈ ns :: nss, y ≠ []) → ∀ y ∈ ns :: nss, (minL ns nss).headD 0 ≤ y.headD 0 := by
  intro nss
  unfold minL
  induction nss with
  | nil => intro ns _ y hy; rw [List.mem_singleton.mp hy]; exact Int.le_refl _
  | cons z r ih =>
    intro ns hn y hy
    rw [List.foldl_cons]
    have n1 := hn ns List.mem_cons_self
    have n2 := hn z (List.mem_cons_of_mem _ List.mem_cons_self)
    have hr : ∀ q ∈ r, q ≠ [] := fun q m => hn q (List.mem_cons_of_mem _ (List.mem_cons_of_mem _ m))
    obtain ⟨a, x, rfl⟩ := List.exists_cons_of_ne_nil n1
    obtain ⟨b, w, rfl⟩ := List.exists_cons_of_ne_nil n2
    by_cases h : PySem.W.listLt (b :: w) (a :: x) = true
    · rw [if_pos h]
      have k := ih (b :: w) (fun q m => (List.mem_cons.mp m).elim (fun e => by rw [e]; exact n2) (hr q))
      rcases List.mem_cons.mp hy with rfl | hy
      · exact Int.le_trans (k _ List.mem_cons_self) (lt_head.1 h)
      · exact k y hy
    · rw [if_neg h]
      have k := ih (a :: x) (fun q m => (List.mem_cons.mp m).elim (fun e => by rw [e]; exact n1) (hr q))
      rcases List.mem_cons.mp hy with rfl | hy
      · exact k _ List.mem_cons_self
      · rcases List.mem_cons.mp hy with rfl | hy
        · exact Int.le_trans (k _ List.mem_cons_self) (lt_head.2 h)
        · exact k y (List.mem_cons_of_mem _ hy)
theorem tupI_lay : ∀ ns : List Int, PyData.canLayAll0 (ns.map .int) = true
  | [] => by simp [PyData.canLayAll0]
  | n :: ns => by rw [List.map_cons]; simp only [PyData.canLayAll0, PyData.canLay0, tupI_lay ns, Bool.and_true]
theorem tupI_depths : ∀ ns : List Int, PyData.depthAll (ns.map .int) = 0
  | [] => by simp [PyData.depthAll]
  | n :: ns => by rw [List.map_cons]; simp [PyData.depthAll, PyData.depth, tupI_depths ns]
theorem tupI_depth : ∀ nss : List (List Int), PyData.depthAll (nss.map tupI) ≤ 1
  | [] => by simp [PyData.depthAll]
  | n :: ns => by
    have := tupI_depth ns
    rw [List.map_cons]
    show max (PyData.depth (.tuple (n.map .int))) (PyData.depthAll (ns.map tupI)) ≤ 1
    have e : PyData.depth (.tuple (n.map .int)) ≤ 1 := by simp [PyData.depth, tupI_depths n]
    omega
theorem tupI_alike (nss : List (List Int)) : PySem.W.AlikeAll (nss.map tupI) := by
  refine ⟨fun x hx y hy => ?_, fun x hx e => ?_⟩
  · obtain ⟨a, _, rfl⟩ := List.mem_map.mp hx
    obtain ⟨b, _, rfl⟩ := List.mem_map.mp hy
    rw [tupI_toD, tupI_toD]
    exact PySem.W.DatumOrd.alike _ _
  · obtain ⟨a, _, rfl⟩ := List.mem_map.mp hx
    cases e
def rMinT (K : PySem.W.Frag) : List V → Hp → VK → Prop := fun vs H Q => ∃ (a : Addr) (xs : List V) (ns : List Int) (nss : List (List Int)), vs = [.ref a] ∧ SqL K H a xs ∧ DpAll K H xs ((ns :: nss).map tupI) ∧
  ∀ (i : Nat) (v : V), xs[i]? = some v → (ns :: nss)[i]? = some (minL ns nss) → Q v H
theorem tupI_inj {a b : List Int} (h : tupI a = tupI b) : a = b := by
  have h2 : a.map PyData.int = b.map PyData.int := PyData.tuple.inj h
  have f : ∀ l : List Int, (l.map PyData.int).map (fun d => match d with | .int i => i | _ => 0) = l := fun l => by
    rw [List.map_map]; exact (List.map_congr_left fun _ _ => rfl).trans (List.map_id l)
  rw [← f a, ← f b, h2]
theorem reads_all_at {h : Heap} : ∀ {vs : List Value} {xs : List PyData} {as : List Addr}, ReadsAll h vs xs as → ∀ (i : Nat) (v : Value), vs[i]? = some v → ∃ d bs, xs[i]? = some d ∧ Reads h v d bs
  | _, _, _, .nil, i, v, e => by simp at e
  | _, _, _, .cons r rs, 0, v, e => by simp at e; subst e; exact ⟨_, _, rfl, r⟩
  | _, _, _, .cons r rs, i + 1, v, e => by
    obtain ⟨d, bs, h1, h2⟩ := reads_all_at rs i v (by simpa using e)
    exact ⟨d, bs, by simpa using h1, h2⟩
theorem vals_at : ∀ {xs : List V} {us : List Value}, Vals xs us → ∀ (i : Nat) (u : Value), us[i]? = some u → ∃ x, xs[i]? = some x ∧ RelV x u
  | _, _, .nil, i, u, e => by simp at e
  | _, _, .cons r rs, 0, u, e => by simp at e; subst e; exact ⟨_, rfl, r⟩
  | _, _, .cons r rs, i + 1, u, e => by
    obtain ⟨x, h1, h2⟩ := vals_at rs i u (by simpa using e)
    exact ⟨x, by simpa using h1, h2⟩
theorem cr_minT {X : Cx} (hc : X.calm = true) (hu : X.A.units + 10 < cLine) : CallR X (.builtin "min") (rMinT X.K) := by
  intro pins s σ H vs us Q I r h
  obtain ⟨a, xs, ns, nss, rfl, sq, dp, q⟩ := h
  obtain ⟨its, rv, hl, _⟩ := I.list sq
  rw [Vals.ref1 r]
  obtain ⟨as, rd⟩ := Dp.readsAll I _ _ its dp rv
  have dd := tupI_depth (ns :: nss)
  have al := tupI_alike (ns :: nss)
  rw [List.map_cons] at rd dd al
  refine PySem.W.min_list_data (I.ok.hd hc) hl.isList (x := tupI ns) (xs := nss.map tupI) (as := as) rd al (by omega) (fun i v h' tk bs gi rv' kp => ?_)
  rw [minD_minL] at rv'
  have gi' : its[i]? = some v := by simpa using gi
  obtain ⟨x, gx, rx⟩ := vals_at rv i v gi'
  obtain ⟨d, cs, gd, rdd⟩ := reads_all_at rd i v gi'
  have rdd' : Reads h' v d cs := PySem.W.reads_keeps kp rdd
  obtain ⟨m, gm, em⟩ : ∃ m, (ns :: nss)[i]? = some m ∧ d = tupI m := by
    have z : ((ns :: nss).map tupI)[i]? = some d := by rw [List.map_cons]; exact gd
    rw [List.getElem?_map] at z
    obtain ⟨m, z1, z2⟩ := Option.map_eq_some_iff.mp z
    exact ⟨m, z1, z2.symm⟩
  have e : tupI (minL ns nss) = d := (rv'.unique _ _ rdd').1
  rw [em] at e
  have e2 := tupI_inj e
  exact ⟨x, H, I.kept (t' := tk) kp, rx, q i x gx (by rw [gm, e2])⟩
end Rw

namespace Rw
open PySem PySem.Spec PyProof.Rows L2
/-! rules that name the written part by a letter (within comprehensions) -/
section
variable {X : Cx} {K : PySem.W.Frag}
theorem ix_tupK (h : X.K = K) : IxR X (rIxT K) := by subst h; exact ix_tup
theorem sl_tupK (h : X.K = K) : SlR X (rSlT K) := by subst h; exact sl_tup
theorem sl_listK (h : X.K = K) : SlR X (rSlL K) := by subst h; exact sl_list
theorem pg_tupK {es : List Expr} {k n : Nat} {t : TGs} {pos : Pos} (h : X.K = K) (hc : X.calm = true) (hg : PGs X es t) (hn : (assignEach es X.env).length = n := by rfl) (hst : (assignEach es X.env).findIdx? (·.1) = none := by rfl) : PG X (.Tuple es k pos) (gTup K n t) := by
  subst h; exact pg_tup hc hg hn hst
theorem pi_listK {tg l : Expr} {tl : TE} (h : X.K = K) (hl : PE X l tl) : PI X tg l (iList K tl) := by subst h; exact pi_list hl
theorem pi_tupK {tg l : Expr} {tl : TE} (h : X.K = K) (hl : PE X l tl) : PI X tg l (iTup K tl) := by subst h; exact pi_tup hl
theorem pe_fldK {e : Expr} {f : Str} {ta : TE} {pos : Pos} (h : X.K = K) (he : PE X e ta) (hb : attributeBase e f X.env (eval e X.env) = eval e X.env) : PE X (.Attribute e f pos) (tFld K ta f) := by subst h; exact pe_fld he hb
theorem call_len_seqK (h : X.K = K) : CallR X (.builtin "len") (fun xs H Q => ∃ p ys, xs = [.ref p] ∧ (SqL K H p ys ∨ SqT K H p ys) ∧ Q (.int ys.length) H) := by subst h; exact call_len_seq
end
end Rw

namespace Rw
open PySem PySem.Spec PyProof.Rows L2
/-! ### {t: v}, the key a tuple -/
def tDispT (trs : List (TE × TE)) : TE := fun σ H Q => ∀ p, H p = none → tPairs trs σ (upd H p (.dT [])) fun ps H2 => H2 p = some (.dT []) ∧ ∃ (b : Addr) (k : List Key) (v : V), ps = [(.ref b, v)] ∧ H2 b = some (.tup (k.map kV)) ∧ Q (.ref p) (upd H2 p (.dT [(k, v)]))
theorem pe_dispT {X : Cx} {pos : Pos} {k v : Expr} {trs : List (TE × TE)} (hu : X.A.units + 1 < cLine) (h : PPs X pos [some k] [v] trs) : PE X (.Dict [some k] [v] pos) (tDispT trs) := by
  refine ⟨fun pins s σ H Q I q => ?_⟩
  have nw := I.hok.fresh (Nat.le_refl s.heap.objs.size)
  have I1 := I.laid (a := s.heap.objs.size) (o := .dT []) (h' := s.heap.push { cls := .type "dict", data := .dict #[] }) (t' := s.toks) (fun _ _ z => Heap.get?_push_of_some _ z) (Nat.le_refl _) (dt_empty s.heap I.big)
  have one : (pairTrees [some k] [v] X.env pos).length = 1 := pairTrees_length [some k] [v] X.env pos rfl rfl
  have ne : pairTrees [some k] [v] X.env pos ≠ [] := fun z => by rw [z] at one; cases one
  rw [arm_eval_Dict, zip_pairTrees [some k] [v] X.env pos rfl rfl, dictDisplay_pairs _ ne (by omega)]
  refine wpAny_bind (wpAny_standAt (wpAny_bind (wpAny_subDictH (knd := tupleKind (mixKind X.prog X.w)) (show X.A.units < cLine by omega) (by omega) (thn (h.run pins _ σ _ _ I1 (q _ nw)) fun ws s2 ⟨ps, H2, I2, rel, e, b, kk, y, eps, eb, q2⟩ => ?_))))
  subst eps
  cases rel with
  | @cons p1 w1 _ ws' hp hr =>
    cases hr
    obtain ⟨wk, wv⟩ := w1
    obtain ⟨rk, rv⟩ := hp
    cases (show wk = Value.ref b from rk)
    obtain ⟨z, hd, xs, rx, dd⟩ := dt_of I2.hok e
    cases rx
    refine ⟨[(kk, b, wv)], ⟨rfl, rfl, key_of I2.hok eb, trivial⟩, dd, fun h' tk dd' hs => wpAny_pure ⟨.ref s.heap.objs.size, _, ?_, rfl, q2⟩⟩
    obtain ⟨o, es, ep, ho, h2, h3, h4, _, h5⟩ := dd'
    have ebN : b ≠ s.heap.objs.size := fun c => by
      rw [c] at eb
      rw [eb] at e
      cases e
    refine d_write I2 (by rw [e]; exact True.intro) hs ⟨o, ho⟩ ⟨by show 1 ≤ sizeLine; decide, hd, [(kk, b, wv)], .cons ⟨rfl, by rw [upd_ne ebN]; exact eb, rv⟩ .nil, o, es, ep, ho, h2, h3, h4, h5⟩
end Rw

namespace Rw
open PySem PySem.Spec PyProof.Rows L2
/-! ### sorted of a list of tuples of ints, of any lengths -/
abbrev VI := V × List Int
def encVI (b : VI) : PyData := tupI b.2
def leI (a b : List Int) : Bool := !decide (b < a)
theorem dataLe_VI : PySem.W.dataLe false encVI = fun a b => leI a.2 b.2 := by
  funext a b
  rw [PySem.W.dataLe_eq]
  show (!PySem.W.dataLt (.tuple (b.2.map .int)) (.tuple (a.2.map .int))) = _
  rw [PySem.W.dataLt_tuple]
  unfold leI
  exact congrArg _ (PySem.W.dataLt_ints b.2 a.2)
def sortVI (bs : List VI) : List VI := bs.mergeSort (fun a b => leI a.2 b.2)
theorem each_vals : ∀ {bs : List VI} {us : List Value}, Vals (bs.map (·.1)) us → PySem.W.EachIs (fun u b => RelV b.1 u) us bs
  | [], _, h => by cases h; exact .nil
  | b :: bs, _, h => by
    cases h with
    | cons r t => exact .cons r (each_vals t)
theorem vals_each : ∀ {bs : List VI} {us : List Value}, PySem.W.EachIs (fun u b => RelV b.1 u) us bs → Vals (bs.map (·.1)) us
  | _, _, .nil => .nil
  | _, _, .cons r t => .cons r (vals_each t)
theorem each_reads {h : Heap} : ∀ {bs : List VI} {us : List Value} {as : List Addr}, ReadsAll h us (bs.map encVI) as → PySem.W.EachIs (fun u b => ∃ as, Reads h u (encVI b) as) us bs
  | [], _, _, h => by cases h; exact .nil
  | b :: bs, _, _, h => by
    cases h with
    | cons r t => exact .cons ⟨_, r⟩ (each_reads t)
def rSortVI (K : PySem.W.Frag) : List V → Hp → VK → Prop := fun vs H Q => ∃ (a : Addr) (bs : List VI), vs = [.ref a] ∧ SqL K H a (bs.map (·.1)) ∧ DpAll K H (bs.map (·.1)) (bs.map encVI) ∧ (∀ b ∈ bs, b.2 ≠ []) ∧ bs.length ≤ 1000 ∧
  ∀ p, H p = none → Q (.ref p) (upd H p (.lst ((sortVI bs).map (·.1))))
theorem cr_sortVI {X : Cx} (hu : X.A.units + 10 < cLine) : CallR X (.builtin "sorted") (rSortVI X.K) := by
  intro pins s σ H vs us Q I r h
  obtain ⟨a, bs, rfl, sq, dp, hn, hl, q⟩ := h
  obtain ⟨its, rv, isl, _⟩ := I.list sq
  rw [Vals.ref1 r]
  obtain ⟨as, rd⟩ := Dp.readsAll I _ _ its dp rv
  refine PySem.W.sorted_data (bs := bs) (enc := encVI) (R := fun u b => RelV b.1 u) isl.isList (each_vals rv) (each_reads rd) (PySem.W.AllAlike.of fun b b' => ?_) (.inl fun d hd => ?_) (Nat.le_trans hl (small1000 (by omega))) (fun b hb => ?_) (fun out lo ho => ?_)
  · exact (tupI_alike [b.2, b'.2]).1 _ List.mem_cons_self _ (List.mem_cons_of_mem _ List.mem_cons_self)
  · obtain ⟨b, hb, rfl⟩ := List.mem_map.mp hd
    obtain ⟨x, xs, e⟩ := List.exists_cons_of_ne_nil (hn b hb)
    exact ⟨.int x, xs.map .int, by unfold encVI tupI; rw [e]; rfl⟩
  · have := tupI_depth [b.2]
    have e : PyData.depthAll ([b.2].map tupI) = max (PyData.depth (encVI b)) 0 := rfl
    omega
  · rw [dataLe_VI] at ho
    obtain ⟨ep, he⟩ := PyProof.Rows.sortedAll_at s.heap its out.toArray
    have hv : Vals ((sortVI bs).map (·.1)) out := vals_each ho
    have hlen : ((sortVI bs).map (·.1)).length ≤ sizeLine := by rw [hv.length, lo]; exact Nat.le_trans hl (small1000 (by omega))
    exact ⟨.ref _, upd H (s.heap.objs.size + 1) (.lst ((sortVI bs).map (·.1))), I.laid (t' := s.toks) (fun _ _ => PyProof.Rows.sortedAll_old) (Nat.le_succ _) ⟨hlen, out, ep, hv, by simpa using he⟩, rfl, q _ (I.hok.fresh (Nat.le_succ _))⟩
end Rw

namespace Rw
open PySem PySem.Spec PyProof.Rows L2
section
variable {X : Cx}
/-! new lists stand elsewhere than the modules' table -/
def tLstN (t : TA) : TE := fun σ H Q => t σ H fun xs H1 => xs.length ≤ sizeLine ∧ ∀ p, H1 p = none → p ≠ sysModules → Q (.ref p) (upd H1 p (.lst xs))
theorem pe_lstN {es : List Expr} {t : TA} {pos : Pos} (h : PA X es t) : PE X (.List es pos) (tLstN t) :=
  ⟨fun pins s σ H Q I hq => wpAny_List_spliced (thn (h.run pos pins s σ H _ I hq) fun us s1 ⟨xs, H1, I1, r, z, q⟩ => ⟨by rw [← r.length]; exact z,
    ⟨.ref s1.heap.objs.size, _, I1.laid (t' := s1.toks) (fun b u e => Heap.get?_push_of_some _ e) (Nat.le_refl _) (show ObjOk X.prog X.w _ _ _ (.lst xs) from ⟨z, us, 0, r, Heap.get?_push_size _ rfl⟩), rfl, q _ (I1.hok.fresh (Nat.le_refl _)) (Nat.ne_of_gt I1.big)⟩⟩)⟩
end
end Rw

namespace Rw
open PySem PySem.Spec PyProof.Rows L2
mutual
theorem Dt.dp {K : PySem.W.Frag} {av : List Addr} {H : Hp} : ∀ (d : PyData) (v : V), Dt av H v d → d.canLay0 = true → Dp K H v d
  | _, _, .non, _ => .non
  | _, _, .bl b, _ => .bl b
  | _, _, .int i, _ => .int i
  | _, _, .str x, _ => .str x
  | .list ds, _, .lst n e s, h => .lst (SqL.of e) (Dts.dp ds _ s (by simpa only [PyData.canLay0] using h))
  | .tuple ds, _, .tup n e s, h => .tup (SqT.of e) (Dts.dp ds _ s (by simpa only [PyData.canLay0] using h))
  | .dict _, _, .dct n e, h => by simp only [PyData.canLay0] at h; cases h
theorem Dts.dp {K : PySem.W.Frag} {av : List Addr} {H : Hp} : ∀ (ds : List PyData) (vs : List V), Dts av H vs ds → PyData.canLayAll0 ds = true → DpAll K H vs ds
  | [], _, .nil, _ => .nil
  | d :: ds, _, .cons x t, h => by
    simp only [PyData.canLayAll0, Bool.and_eq_true] at h
    exact .cons (Dt.dp d _ x h.1) (Dts.dp ds _ t h.2)
end
theorem lay_prs : ∀ na : List (Int × Int), PyData.canLayAll0 (na.map prD) = true
  | [] => by simp [PyData.canLayAll0]
  | p :: na => by
    have e : prD p = .tuple [.int p.1, .int p.2] := rfl
    rw [List.map_cons, e]
    simp only [PyData.canLayAll0, PyData.canLay0, lay_prs na, Bool.and_true]
theorem lay_pis : ∀ ps : List Pi, PyData.canLayAll0 (ps.map Pi.dat) = true
  | [] => by simp [PyData.canLayAll0]
  | p :: ps => by
    have e : p.dat = .tuple [.int p.x, .int p.y, .int p.l, .tuple (p.na.map prD), .tuple (p.fl.map prD)] := rfl
    rw [List.map_cons, e]
    simp only [PyData.canLayAll0, PyData.canLay0, lay_prs, lay_pis ps, Bool.and_true]
theorem shaped_of {d : PyData} (h : d.canLay0 = true) (h2 : d.depth ≤ 64) : SeqAt.shaped d = true := by
  unfold SeqAt.shaped
  rw [h, decide_eq_true h2]; rfl
theorem eqv_nil (ds : List PyData) : PyData.eqv (.tuple ds) (.tuple []) = ds.isEmpty := by
  cases ds <;> rfl
/-! ### a house as it is handed about: its two parts -/
theorem house_parts {av : List Addr} {H : Hp} {h : V} {n : Int} {ps : List PyData} (x : Dt av H h (houseD n ps)) :
    ∃ (ah ap : Addr) (xp : List V), h = .ref ah ∧ ah ∉ av ∧ H ah = some (.tup [.int n, .ref ap]) ∧ ap ∉ av ∧ H ap = some (.tup xp) ∧ Dts av H xp ps := by
  cases x with
  | tup na ea da =>
    cases da with
    | cons d1 da =>
      cases d1
      cases da with
      | cons d2 da =>
        cases da
        cases d2 with
        | tup nb eb db => exact ⟨_, _, _, rfl, na, ea, nb, eb, db⟩
/-! the pipe at a place -/
theorem pi_at {av : List Addr} {H : Hp} {xp : List V} {ps : List Pi} (hs : Dts av H xp (ps.map Pi.dat)) {i : Int} (h0 : 0 ≤ i) (h1 : i < ps.length) :
    ∃ (p : Pi) (pa T1 T2 : Addr), p ∈ ps ∧ ps[i.toNat]? = some p ∧ atI xp i = some (.ref pa) ∧ H pa = some (.tup [.int p.x, .int p.y, .int p.l, .ref T1, .ref T2]) := by
  have e : ps[i.toNat]? = some (ps[i.toNat]'(by omega)) := List.getElem?_eq_getElem (by omega)
  obtain ⟨v, ev, dv⟩ := hs.get i.toNat (d := (ps[i.toNat]'(by omega)).dat) (by rw [List.getElem?_map, e]; rfl)
  have ep : (ps[i.toNat]'(by omega)).dat = .tuple [.int (ps[i.toNat]'(by omega)).x, .int (ps[i.toNat]'(by omega)).y, .int (ps[i.toNat]'(by omega)).l, .tuple ((ps[i.toNat]'(by omega)).na.map prD), .tuple ((ps[i.toNat]'(by omega)).fl.map prD)] := rfl
  rw [ep] at dv
  cases dv with
  | tup na ea da =>
    cases da with
    | cons d1 da => cases d1; cases da with
      | cons d2 da => cases d2; cases da with
        | cons d3 da => cases d3; cases da with
          | cons d4 da => cases d4 with
            | tup _ _ _ => cases da with
              | cons d5 da => cases d5 with
                | tup _ _ _ =>
                  cases da
                  exact ⟨_, _, _, _, List.getElem_mem _, e, atI_of h0 ev, ea⟩
end Rw

namespace Rw
/-! ### places of a house, their distances -/
def pr (ps : List Pi) (i : Int) : Pi := ps.getD i.toNat default
theorem pr_mem {ps : List Pi} {i : Int} (h0 : 0 ≤ i) (h1 : i < ps.length) : pr ps i ∈ ps ∧ ps[i.toNat]? = some (pr ps i) := by
  have e : ps[i.toNat]? = some (ps[i.toNat]'(by omega)) := List.getElem?_eq_getElem (by omega)
  unfold pr
  rw [List.getD_eq_getElem?_getD, e]
  exact ⟨List.getElem_mem _, rfl⟩
theorem pr_of {ps : List Pi} {j : Nat} {p : Pi} (h : ps[j]? = some p) : pr ps (j : Int) = p := by
  unfold pr
  rw [List.getD_eq_getElem?_getD, show ((j : Int)).toNat = j by omega, h]; rfl
abbrev Pl := List Int
def okP (n : Int) (ps : List Pi) : Pl → Prop
  | [r] => 0 ≤ r ∧ r < n
  | [i, a] => 0 ≤ i ∧ i < ps.length ∧ 1 ≤ a ∧ a ≤ (pr ps i).l - 1
  | _ => False
def ab (a b : Int) : Int := if a < b then b - a else a - b
def dr (ps : List Pi) (d : Int → Int → Int) (s i a : Int) : Int := min (d s (pr ps i).x + a) (d s (pr ps i).y + ((pr ps i).l - a))
def Dp (ps : List Pi) (d : Int → Int → Int) : Pl → Pl → Int
  | [s], [t] => d s t
  | [s], [i, a] => dr ps d s i a
  | [i, a], [s] => dr ps d s i a
  | [i, a], [j, b] => if i = j then ab a b else min (a + dr ps d (pr ps i).x j b) ((pr ps i).l - a + dr ps d (pr ps i).y j b)
  | _, _ => 0
def nm (ps : List Pi) (i a : Int) : Pl := if a = 0 then [(pr ps i).x] else if a = (pr ps i).l then [(pr ps i).y] else [i, a]
def Adj (ps : List Pi) (p q : Pl) : Prop := ∃ i a : Int, 0 ≤ i ∧ i < ps.length ∧ 0 ≤ a ∧ a < (pr ps i).l ∧ ((p = nm ps i a ∧ q = nm ps i (a + 1)) ∨ (q = nm ps i a ∧ p = nm ps i (a + 1)))
theorem Adj.symm {ps : List Pi} {p q : Pl} (h : Adj ps p q) : Adj ps q p := by
  obtain ⟨i, a, h1, h2, h3, h4, h5⟩ := h
  exact ⟨i, a, h1, h2, h3, h4, h5.symm⟩
theorem ok_cases {n : Int} {ps : List Pi} {p : Pl} (h : okP n ps p) : (∃ r, p = [r] ∧ 0 ≤ r ∧ r < n) ∨ ∃ i a, p = [i, a] ∧ 0 ≤ i ∧ i < ps.length ∧ 1 ≤ a ∧ a ≤ (pr ps i).l - 1 := by
  match p, h with
  | [r], h => exact .inl ⟨r, rfl, h⟩
  | [i, a], h => exact .inr ⟨i, a, rfl, h⟩
/-! how a source is seen along a pipe: its foot -/
def foot1 (ps : List Pi) (d : Int → Int → Int) (r i : Int) : Int := if d r (pr ps i).y = d r (pr ps i).x + (pr ps i).l then 0 else (pr ps i).l
def foot (ps : List Pi) (d : Int → Int → Int) : Pl → Int → Int
  | [r], i => foot1 ps d r i
  | [j, b], i => if j = i then b else if d (pr ps j).x (pr ps i).x < d (pr ps j).y (pr ps i).x then foot1 ps d (pr ps j).x i else foot1 ps d (pr ps j).y i
  | _, _ => 0
section
variable {n : Int} {ps : List Pi} {d : Int → Int → Int} (T : Tm n ps d)
include T
theorem Tm.at {i : Int} (h0 : 0 ≤ i) (h1 : i < ps.length) : 0 ≤ (pr ps i).x ∧ (pr ps i).x < n ∧ 0 ≤ (pr ps i).y ∧ (pr ps i).y < n ∧ 1 ≤ (pr ps i).l := T.ok _ (pr_mem h0 h1).1
theorem Tm.stp {i s : Int} (h0 : 0 ≤ i) (h1 : i < ps.length) (s0 : 0 ≤ s) (s1 : s < n) : d s (pr ps i).x = d s (pr ps i).y + (pr ps i).l ∨ d s (pr ps i).y = d s (pr ps i).x + (pr ps i).l := T.step _ (pr_mem h0 h1).1 s s0 s1
theorem Tm.own {i : Int} (h0 : 0 ≤ i) (h1 : i < ps.length) : d (pr ps i).x (pr ps i).y = (pr ps i).l ∧ d (pr ps i).y (pr ps i).x = (pr ps i).l ∧ (pr ps i).x ≠ (pr ps i).y := by
  obtain ⟨a1, a2, a3, a4, a5⟩ := T.at h0 h1
  have e1 := T.stp h0 h1 a1 a2
  have e2 := T.sym (pr ps i).x (pr ps i).y
  have e3 := T.zero (pr ps i).x
  have e4 := T.nn a1 a2 a3 a4
  refine ⟨by omega, by omega, fun z => ?_⟩
  rw [← z] at e1
  omega
theorem Tm.sd {i j : Int} (h0 : 0 ≤ i) (h1 : i < ps.length) (k0 : 0 ≤ j) (k1 : j < ps.length) (ne : j ≠ i) :
    d (pr ps j).x (pr ps i).x - d (pr ps j).y (pr ps i).x = d (pr ps j).x (pr ps i).y - d (pr ps j).y (pr ps i).y :=
  T.side j.toNat i.toNat _ _ (by omega) (pr_mem k0 k1).2 (pr_mem h0 h1).2
theorem foot1_at {i r : Int} (h0 : 0 ≤ i) (h1 : i < ps.length) (r0 : 0 ≤ r) (r1 : r < n) {a : Int} (a0 : 0 ≤ a) (a1 : a ≤ (pr ps i).l) :
    dr ps d r i a = dr ps d r i (foot1 ps d r i) + ab a (foot1 ps d r i) ∧ (foot1 ps d r i = 0 ∨ foot1 ps d r i = (pr ps i).l) := by
  have l1 := (T.at h0 h1).2.2.2.2
  have st := T.stp h0 h1 r0 r1
  unfold dr foot1 ab
  by_cases u : d r (pr ps i).y = d r (pr ps i).x + (pr ps i).l
  · rw [if_pos u]; refine ⟨?_, .inl rfl⟩; split <;> omega
  · rw [if_neg u]; refine ⟨?_, .inr rfl⟩; split <;> omega
theorem dr_0 {i r : Int} (h0 : 0 ≤ i) (h1 : i < ps.length) (r0 : 0 ≤ r) (r1 : r < n) : dr ps d r i 0 = d r (pr ps i).x ∧ dr ps d r i (pr ps i).l = d r (pr ps i).y := by
  have l1 := (T.at h0 h1).2.2.2.2
  have st := T.stp h0 h1 r0 r1
  unfold dr; omega
/-! along a pipe, from a room -/
theorem Dp_room {i r : Int} (h0 : 0 ≤ i) (h1 : i < ps.length) (r0 : 0 ≤ r) (r1 : r < n) (a : Int) : Dp ps d [r] (nm ps i a) = dr ps d r i a := by
  unfold nm
  by_cases e : a = 0
  · rw [if_pos e, e]; exact (dr_0 T h0 h1 r0 r1).1.symm
  · rw [if_neg e]
    by_cases f : a = (pr ps i).l
    · rw [if_pos f, f]; exact (dr_0 T h0 h1 r0 r1).2.symm
    · rw [if_neg f]; rfl
/-! along a pipe, from a place of it -/
theorem Dp_same {i b : Int} (h0 : 0 ≤ i) (h1 : i < ps.length) (b0 : 1 ≤ b) (b1 : b ≤ (pr ps i).l - 1) (a : Int) : Dp ps d [i, b] (nm ps i a) = ab b a := by
  obtain ⟨o1, o2, o3⟩ := T.own h0 h1
  have z1 := T.zero (pr ps i).x
  have z2 := T.zero (pr ps i).y
  unfold nm
  by_cases e : a = 0
  · rw [if_pos e, e]; show dr ps d (pr ps i).x i b = _; unfold dr ab; split <;> omega
  · rw [if_neg e]
    by_cases f : a = (pr ps i).l
    · rw [if_pos f, f]; show dr ps d (pr ps i).y i b = _; unfold dr ab; split <;> omega
    · rw [if_neg f]; show (if i = i then ab b a else _) = _; rw [if_pos rfl]
/-! along a pipe, from a place of another one: as from the room on this side -/
theorem Dp_else {i j b : Int} (h0 : 0 ≤ i) (h1 : i < ps.length) (k0 : 0 ≤ j) (k1 : j < ps.length) (ne : j ≠ i) (b0 : 1 ≤ b) (b1 : b ≤ (pr ps j).l - 1) (a : Int) (a0 : 0 ≤ a) (a1 : a ≤ (pr ps i).l) :
    Dp ps d [j, b] (nm ps i a) = if d (pr ps j).x (pr ps i).x < d (pr ps j).y (pr ps i).x then b + dr ps d (pr ps j).x i a else (pr ps j).l - b + dr ps d (pr ps j).y i a := by
  obtain ⟨x0, x1, y0, y1, l1⟩ := T.at h0 h1
  obtain ⟨u0, u1, v0, v1, m1⟩ := T.at k0 k1
  have sd := T.sd h0 h1 k0 k1 ne
  have s1 := T.stp k0 k1 x0 x1
  have s2 := T.stp k0 k1 y0 y1
  rw [T.sym _ (pr ps j).x, T.sym _ (pr ps j).y] at s1 s2
  have t1 := T.stp h0 h1 u0 u1
  have t2 := T.stp h0 h1 v0 v1
  have main : min (b + dr ps d (pr ps j).x i a) ((pr ps j).l - b + dr ps d (pr ps j).y i a) = if d (pr ps j).x (pr ps i).x < d (pr ps j).y (pr ps i).x then b + dr ps d (pr ps j).x i a else (pr ps j).l - b + dr ps d (pr ps j).y i a := by
    unfold dr
    split <;> omega
  rw [← main]
  unfold nm
  by_cases e : a = 0
  · rw [if_pos e, e, (dr_0 T h0 h1 u0 u1).1, (dr_0 T h0 h1 v0 v1).1]
    show dr ps d (pr ps i).x j b = _
    unfold dr
    rw [T.sym _ (pr ps j).x, T.sym _ (pr ps j).y]
    omega
  · rw [if_neg e]
    by_cases f : a = (pr ps i).l
    · rw [if_pos f, f, (dr_0 T h0 h1 u0 u1).2, (dr_0 T h0 h1 v0 v1).2]
      show dr ps d (pr ps i).y j b = _
      unfold dr
      rw [T.sym _ (pr ps j).x, T.sym _ (pr ps j).y]
      omega
    · rw [if_neg f]
      show (if j = i then ab b a else _) = _
      rw [if_neg ne]
theorem foot_at {s : Pl} (hs : okP n ps s) {i : Int} (h0 : 0 ≤ i) (h1 : i < ps.length) : 0 ≤ foot ps d s i ∧ foot ps d s i ≤ (pr ps i).l ∧ (0 < foot ps d s i → foot ps d s i < (pr ps i).l → s = [i, foot ps d s i]) ∧
    ∀ a, 0 ≤ a → a ≤ (pr ps i).l → Dp ps d s (nm ps i a) = Dp ps d s (nm ps i (foot ps d s i)) + ab a (foot ps d s i) := by
  have l1 := (T.at h0 h1).2.2.2.2
  rcases ok_cases hs with ⟨r, rfl, r0, r1⟩ | ⟨j, b, rfl, k0, k1, b0, b1⟩
  · have f := fun a => foot1_at T (a := a) h0 h1 r0 r1
    have f0 := (f 0 (by omega) (by omega)).2
    show 0 ≤ foot1 ps d r i ∧ foot1 ps d r i ≤ _ ∧ (0 < foot1 ps d r i → foot1 ps d r i < _ → _) ∧ ∀ a, _ → _ → _ = Dp ps d [r] (nm ps i (foot1 ps d r i)) + ab a (foot1 ps d r i)
    refine ⟨by omega, by omega, fun _ _ => by omega, fun a a0 a1 => ?_⟩
    rw [Dp_room T h0 h1 r0 r1, Dp_room T h0 h1 r0 r1]
    exact (f a a0 a1).1
  · by_cases e : j = i
    · subst e
      have ef : foot ps d [j, b] j = b := if_pos rfl
      rw [ef]
      refine ⟨by omega, by omega, fun _ _ => rfl, fun a a0 a1 => ?_⟩
      rw [Dp_same T h0 h1 b0 b1, Dp_same T h0 h1 b0 b1]
      unfold ab
      split <;> split <;> omega
    · obtain ⟨u0, u1, v0, v1, m1⟩ := T.at k0 k1
      by_cases c : d (pr ps j).x (pr ps i).x < d (pr ps j).y (pr ps i).x
      · have ef : foot ps d [j, b] i = foot1 ps d (pr ps j).x i := (if_neg e).trans (if_pos c)
        have f := fun a => foot1_at T (a := a) h0 h1 u0 u1
        have f0 := (f 0 (by omega) (by omega)).2
        rw [ef]
        refine ⟨by omega, by omega, fun _ _ => by omega, fun a a0 a1 => ?_⟩
        rw [Dp_else T h0 h1 k0 k1 e b0 b1 a a0 a1, Dp_else T h0 h1 k0 k1 e b0 b1 _ (by omega) (by omega), if_pos c, if_pos c]
        have := (f a a0 a1).1
        omega
      · have ef : foot ps d [j, b] i = foot1 ps d (pr ps j).y i := (if_neg e).trans (if_neg c)
        have f := fun a => foot1_at T (a := a) h0 h1 v0 v1
        have f0 := (f 0 (by omega) (by omega)).2
        rw [ef]
        refine ⟨by omega, by omega, fun _ _ => by omega, fun a a0 a1 => ?_⟩
        rw [Dp_else T h0 h1 k0 k1 e b0 b1 a a0 a1, Dp_else T h0 h1 k0 k1 e b0 b1 _ (by omega) (by omega), if_neg c, if_neg c]
        have := (f a a0 a1).1
        omega
/-! one step nearer, one step farther -/
theorem Dp_step {s : Pl} (hs : okP n ps s) {p q : Pl} (h : Adj ps p q) : Dp ps d s q = Dp ps d s p + 1 ∨ Dp ps d s p = Dp ps d s q + 1 := by
  obtain ⟨i, a, h0, h1, a0, a1, h⟩ := h
  obtain ⟨_, _, _, f⟩ := foot_at T hs h0 h1
  have e1 := f a a0 (by omega)
  have e2 := f (a + 1) (by omega) (by omega)
  unfold ab at e1 e2
  rcases h with ⟨rfl, rfl⟩ | ⟨rfl, rfl⟩ <;> (split at e1 <;> split at e2 <;> omega)
/-! a door at a room by which one comes nearer -/
theorem foot1_door {r t i : Int} (h0 : 0 ≤ i) (h1 : i < ps.length) (r0 : 0 ≤ r) (r1 : r < n) : Dn ps d r t i.toNat ↔ (((pr ps i).x = t ∧ foot1 ps d r i ≠ 0) ∨ ((pr ps i).y = t ∧ foot1 ps d r i ≠ (pr ps i).l)) := by
  have l1 := (T.at h0 h1).2.2.2.2
  have st := T.stp h0 h1 r0 r1
  constructor
  · rintro ⟨p, e, h⟩
    rw [(pr_mem h0 h1).2] at e
    cases e
    unfold foot1
    rcases h with ⟨e1, e2⟩ | ⟨e1, e2⟩
    · left; refine ⟨e1, ?_⟩; rw [← e1] at e2; rw [if_neg (by omega)]; omega
    · right; refine ⟨e1, ?_⟩; rw [← e1] at e2; rw [if_pos (by omega)]; omega
  · intro h
    refine ⟨_, (pr_mem h0 h1).2, ?_⟩
    unfold foot1 at h
    rcases h with ⟨e1, e2⟩ | ⟨e1, e2⟩
    · left; refine ⟨e1, ?_⟩
      by_cases u : d r (pr ps i).y = d r (pr ps i).x + (pr ps i).l
      · rw [if_pos u] at e2; exact absurd rfl e2
      · rw [← e1]; omega
    · right; refine ⟨e1, ?_⟩
      by_cases u : d r (pr ps i).y = d r (pr ps i).x + (pr ps i).l
      · rw [← e1]; omega
      · rw [if_neg u] at e2; exact absurd rfl e2
/-! a room on the one side of a pipe: its doors are seen from that side's room -/
theorem foot_side {j b t : Int} (k0 : 0 ≤ j) (k1 : j < ps.length) (b0 : 1 ≤ b) (b1 : b ≤ (pr ps j).l - 1) (t0 : 0 ≤ t) (t1 : t < n) :
    ∃ c, (c = (pr ps j).x ∨ c = (pr ps j).y) ∧ 0 ≤ c ∧ c < n ∧
      (∀ i : Int, 0 ≤ i → i < ps.length → ((pr ps i).x = t ∨ (pr ps i).y = t) → i ≠ j → foot ps d [j, b] i = foot1 ps d c i) ∧
      ((pr ps j).x = t → c = t) ∧ ((pr ps j).y = t → c = t) := by
  obtain ⟨u0, u1, v0, v1, m1⟩ := T.at k0 k1
  obtain ⟨o1, o2, o3⟩ := T.own k0 k1
  have zx := T.zero (pr ps j).x
  have zy := T.zero (pr ps j).y
  by_cases c : d (pr ps j).x t < d (pr ps j).y t
  · refine ⟨(pr ps j).x, .inl rfl, u0, u1, fun i h0 h1 ht ne => ?_, fun e => e, fun e => ?_⟩
    · have sd := T.sd h0 h1 k0 k1 (Ne.symm ne)
      have c' : d (pr ps j).x (pr ps i).x < d (pr ps j).y (pr ps i).x := by rcases ht with e | e <;> rw [← e] at c <;> omega
      exact (if_neg (Ne.symm ne)).trans (if_pos c')
    · rw [← e] at c; omega
  · refine ⟨(pr ps j).y, .inr rfl, v0, v1, fun i h0 h1 ht ne => ?_, fun e => ?_, fun e => e⟩
    · have sd := T.sd h0 h1 k0 k1 (Ne.symm ne)
      have c' : ¬ d (pr ps j).x (pr ps i).x < d (pr ps j).y (pr ps i).x := by rcases ht with e | e <;> rw [← e] at c <;> omega
      exact (if_neg (Ne.symm ne)).trans (if_neg c')
    · rw [← e] at c; omega
/-! at a room that isn't the source there is just one such door -/
def Door (ps : List Pi) (d : Int → Int → Int) (s : Pl) (t i : Int) : Prop := 0 ≤ i ∧ i < ps.length ∧ (((pr ps i).x = t ∧ foot ps d s i ≠ 0) ∨ ((pr ps i).y = t ∧ foot ps d s i ≠ (pr ps i).l))
theorem own_foot {c i : Int} (h0 : 0 ≤ i) (h1 : i < ps.length) (c0 : 0 ≤ c) (c1 : c < n) : ((pr ps i).x = c → foot1 ps d c i = 0) ∧ ((pr ps i).y = c → foot1 ps d c i = (pr ps i).l) := by
  obtain ⟨x0, x1, y0, y1, l1⟩ := T.at h0 h1
  obtain ⟨o1, o2, o3⟩ := T.own h0 h1
  have zx := T.zero (pr ps i).x
  have zy := T.zero (pr ps i).y
  unfold foot1
  exact ⟨fun e => by rw [← e, if_pos (by omega)], fun e => by rw [← e, if_neg (by omega)]⟩
theorem door_ex {s : Pl} (hs : okP n ps s) {t : Int} (t0 : 0 ≤ t) (t1 : t < n) (ne : s ≠ [t]) : ∃ i, Door ps d s t i := by
  rcases ok_cases hs with ⟨r, rfl, r0, r1⟩ | ⟨j, b, rfl, k0, k1, b0, b1⟩
  · obtain ⟨i, p, e, h⟩ := T.par r t r0 r1 t0 t1 (fun z => ne (by rw [z]))
    have hi : i < ps.length := (List.getElem?_eq_some_iff.mp e).1
    refine ⟨(i : Int), by omega, by omega, ?_⟩
    exact (foot1_door T (by omega) (by omega) r0 r1).mp ⟨p, by rw [show ((i : Int)).toNat = i by omega]; exact e, h⟩
  · obtain ⟨c, hc, c0, c1, hf, ex, ey⟩ := foot_side T k0 k1 b0 b1 t0 t1
    have ej : foot ps d [j, b] j = b := if_pos rfl
    by_cases z : c = t
    · subst z
      rcases hc with e | e
      · exact ⟨j, k0, k1, .inl ⟨e.symm, by rw [ej]; omega⟩⟩
      · exact ⟨j, k0, k1, .inr ⟨e.symm, by rw [ej]; omega⟩⟩
    · obtain ⟨i, p, e, h⟩ := T.par c t c0 c1 t0 t1 z
      have hi : i < ps.length := (List.getElem?_eq_some_iff.mp e).1
      have dd := (foot1_door T (t := t) (i := (i : Int)) (by omega) (by omega) c0 c1).mp ⟨p, by rw [show ((i : Int)).toNat = i by omega]; exact e, h⟩
      have nj : (i : Int) ≠ j := fun w => by
        rw [w] at dd
        rcases dd with ⟨e1, _⟩ | ⟨e1, _⟩
        · exact z (ex e1)
        · exact z (ey e1)
      refine ⟨(i : Int), by omega, by omega, ?_⟩
      rw [hf i (by omega) (by omega) (dd.elim (fun q => .inl q.1) (fun q => .inr q.1)) nj]
      exact dd
theorem door_uni {s : Pl} (hs : okP n ps s) {t : Int} (t0 : 0 ≤ t) (t1 : t < n) {i i' : Int} (h : Door ps d s t i) (h' : Door ps d s t i') : i = i' := by
  obtain ⟨h0, h1, h2⟩ := h
  obtain ⟨g0, g1, g2⟩ := h'
  rcases ok_cases hs with ⟨r, rfl, r0, r1⟩ | ⟨j, b, rfl, k0, k1, b0, b1⟩
  · have := T.uni r t i.toNat i'.toNat r0 r1 t0 t1 ((foot1_door T h0 h1 r0 r1).mpr h2) ((foot1_door T g0 g1 r0 r1).mpr g2)
    omega
  · obtain ⟨c, hc, c0, c1, hf, ex, ey⟩ := foot_side T k0 k1 b0 b1 t0 t1
    have self : ∀ k : Int, 0 ≤ k → k < ps.length → (((pr ps k).x = t ∧ foot ps d [j, b] k ≠ 0) ∨ ((pr ps k).y = t ∧ foot ps d [j, b] k ≠ (pr ps k).l)) → k ≠ j → c ≠ t ∧ Dn ps d c t k.toNat := by
      intro k p0 p1 p2 nk
      rw [hf k p0 p1 (p2.elim (fun q => .inl q.1) (fun q => .inr q.1)) nk] at p2
      refine ⟨fun z => ?_, (foot1_door T p0 p1 c0 c1).mpr p2⟩
      have o := own_foot T p0 p1 c0 c1
      rcases p2 with ⟨e1, e2⟩ | ⟨e1, e2⟩
      · exact e2 (o.1 (by rw [e1, z]))
      · exact e2 (o.2 (by rw [e1, z]))
    have atj : (((pr ps j).x = t ∧ foot ps d [j, b] j ≠ 0) ∨ ((pr ps j).y = t ∧ foot ps d [j, b] j ≠ (pr ps j).l)) → c = t := fun q => q.elim (fun z => ex z.1) (fun z => ey z.1)
    by_cases e : i = j
    · by_cases e' : i' = j
      · rw [e, e']
      · rw [e] at h2
        exact absurd (atj h2) (self i' g0 g1 g2 e').1
    · by_cases e' : i' = j
      · rw [e'] at g2
        exact absurd (atj g2) (self i h0 h1 h2 e).1
      · have := T.uni c t i.toNat i'.toNat c0 c1 t0 t1 (self i h0 h1 h2 e).2 (self i' g0 g1 g2 e').2
        omega
end
end Rw

namespace Rw
/-! ### going through a tree from a source -/
structure Sr {α : Type} (src : α) (V : α → Prop) (D : α → Int) (E : α → α → Int → Prop) : Prop where
  zero : D src = 0
  here : V src
  nn : ∀ v, V v → 0 ≤ D v
  wt : ∀ u v w, V u → E u v w → 1 ≤ w
  cl : ∀ u v w, V u → E u v w → V v
  sym : ∀ u v w, E u v w → E v u w
  step : ∀ u v w, V u → E u v w → D v = D u + w ∨ D u = D v + w
  par : ∀ v, V v → v ≠ src → ∃ u w, E v u w ∧ D v = D u + w
  uni : ∀ v u w u' w', V v → E v u w → E v u' w' → D v = D u + w → D v = D u' + w' → u = u'
/-! what was found holds with each the one nearer to the source -/
def Pard {α : Type} (src : α) (D : α → Int) (E : α → α → Int → Prop) (F : List α) : Prop := ∀ v ∈ F, v ≠ src → ∃ u ∈ F, ∃ w, E v u w ∧ D v = D u + w
theorem Sr.found {α : Type} {src : α} {V : α → Prop} {D : α → Int} {E : α → α → Int → Prop} (S : Sr src V D E) {F : List α} (P : Pard src D E F) {u v : α} {w : Int} (hu : u ∈ F) (vu : V u) (e : E u v w) (hv : v ∉ F) : D v = D u + w := by
  rcases S.step u v w vu e with h | h
  · exact h
  · have h1 := S.nn v (S.cl u v w vu e)
    have h2 := S.wt u v w vu e
    have ne : u ≠ src := fun z => by rw [z, S.zero] at h; omega
    obtain ⟨u', m, w', e', h'⟩ := P u hu ne
    have := S.uni u v w u' w' vu e e' h h'
    rw [this] at hv
    exact absurd m hv
theorem Pard.snoc {α : Type} {src : α} {D : α → Int} {E : α → α → Int → Prop} {F : List α} (P : Pard src D E F) {u v : α} {w : Int} (hu : u ∈ F) (e : E v u w) (h : D v = D u + w) : Pard src D E (F ++ [v]) := fun x hx nx => by
  rcases List.mem_append.mp hx with m | m
  · obtain ⟨y, my, r⟩ := P x m nx
    exact ⟨y, List.mem_append_left _ my, r⟩
  · rw [List.mem_singleton.mp m]
    exact ⟨u, List.mem_append_left _ hu, w, e, h⟩
theorem Sr.all {α : Type} {src : α} {V : α → Prop} {D : α → Int} {E : α → α → Int → Prop} (S : Sr src V D E) {F : List α} (h0 : src ∈ F) (hc : ∀ u ∈ F, ∀ v w, E u v w → v ∈ F) : ∀ (k : Nat) (v : α), V v → (D v).toNat < k → v ∈ F
  | 0, _, _, h => absurd h (Nat.not_lt_zero _)
  | k + 1, v, vv, h => by
    by_cases e : v = src
    · rw [e]; exact h0
    · obtain ⟨u, w, euv, hd⟩ := S.par v vv e
      have vu := S.cl v u w vv euv
      have n1 := S.nn u vu
      have n2 := S.wt v u w vv euv
      exact hc u (S.all h0 hc k u vu (by omega)) v w (S.sym v u w euv)
/-! ### rooms -/
def RE (ps : List Pi) (u v w : Int) : Prop := ∃ (i : Nat) (p : Pi), ps[i]? = some p ∧ w = p.l ∧ ((p.x = u ∧ p.y = v) ∨ (p.y = u ∧ p.x = v))
theorem Tm.rooms {n : Int} {ps : List Pi} {d : Int → Int → Int} (T : Tm n ps d) {r : Int} (r0 : 0 ≤ r) (r1 : r < n) : Sr r (fun t => 0 ≤ t ∧ t < n) (d r) (RE ps) where
  zero := T.zero r
  here := ⟨r0, r1⟩
  nn := fun v h => T.nn r0 r1 h.1 h.2
  wt := fun u v w _ ⟨i, p, e, hw, _⟩ => by rw [hw]; exact (T.ok p (List.mem_of_getElem? e)).2.2.2.2
  cl := fun u v w _ ⟨i, p, e, _, h⟩ => by
    obtain ⟨a1, a2, a3, a4, _⟩ := T.ok p (List.mem_of_getElem? e)
    rcases h with ⟨_, h⟩ | ⟨_, h⟩ <;> rw [← h]
    · exact ⟨a3, a4⟩
    · exact ⟨a1, a2⟩
  sym := fun u v w ⟨i, p, e, hw, h⟩ => ⟨i, p, e, hw, h.elim (fun z => .inr ⟨z.2, z.1⟩) (fun z => .inl ⟨z.2, z.1⟩)⟩
  step := fun u v w _ ⟨i, p, e, hw, h⟩ => by
    have s := T.step p (List.mem_of_getElem? e) r r0 r1
    rw [hw]
    rcases h with ⟨h1, h2⟩ | ⟨h1, h2⟩ <;> rw [← h1, ← h2]
    · exact s.symm
    · exact s
  par := fun v h ne => by
    obtain ⟨i, p, e, h⟩ := T.par r v r0 r1 h.1 h.2 (Ne.symm ne)
    rcases h with ⟨h1, h2⟩ | ⟨h1, h2⟩
    · exact ⟨p.y, p.l, ⟨i, p, e, rfl, .inl ⟨h1, rfl⟩⟩, h2.symm⟩
    · exact ⟨p.x, p.l, ⟨i, p, e, rfl, .inr ⟨h1, rfl⟩⟩, h2.symm⟩
  uni := fun v u w u' w' h ⟨i, p, e, hw, hp⟩ ⟨j, q, f, hv, hq⟩ h1 h2 => by
    have t1 : Dn ps (d) r v i := ⟨p, e, hp.elim (fun z => .inl ⟨z.1, by rw [z.2, ← hw]; exact h1.symm⟩) (fun z => .inr ⟨z.1, by rw [z.2, ← hw]; exact h1.symm⟩)⟩
    have t2 : Dn ps (d) r v j := ⟨q, f, hq.elim (fun z => .inl ⟨z.1, by rw [z.2, ← hv]; exact h2.symm⟩) (fun z => .inr ⟨z.1, by rw [z.2, ← hv]; exact h2.symm⟩)⟩
    have ij := T.uni r v i j r0 r1 h.1 h.2 t1 t2
    subst ij
    rw [e] at f
    cases f
    have hi : i < ps.length := (List.getElem?_eq_some_iff.mp e).1
    have o := (T.own (i := (i : Int)) (by omega) (by omega)).2.2
    rw [pr_of e] at o
    rcases hp with ⟨a1, a2⟩ | ⟨a1, a2⟩ <;> rcases hq with ⟨b1, b2⟩ | ⟨b1, b2⟩
    · rw [← a2, ← b2]
    · exact absurd (a1.trans b1.symm) o
    · exact absurd (b1.trans a1.symm) o
    · rw [← a2, ← b2]
/-! ### places -/
theorem nm_0 (ps : List Pi) (i : Int) : nm ps i 0 = [(pr ps i).x] := if_pos rfl
theorem nm_l {ps : List Pi} {i : Int} (h : (pr ps i).l ≠ 0) : nm ps i (pr ps i).l = [(pr ps i).y] := (if_neg h).trans (if_pos rfl)
theorem nm_mid {ps : List Pi} {i a : Int} (h : a ≠ 0) (h2 : a ≠ (pr ps i).l) : nm ps i a = [i, a] := (if_neg h).trans (if_neg h2)
theorem nm_two {ps : List Pi} {i a j b : Int} (h : nm ps i a = [j, b]) : i = j ∧ a = b ∧ a ≠ 0 ∧ a ≠ (pr ps i).l := by
  unfold nm at h
  split at h
  · cases h
  · split at h
    · cases h
    · rename_i x y
      cases h
      exact ⟨rfl, rfl, x, y⟩
theorem nm_one {ps : List Pi} {i a t : Int} (h : nm ps i a = [t]) : (a = 0 ∧ (pr ps i).x = t) ∨ (a = (pr ps i).l ∧ (pr ps i).y = t) := by
  unfold nm at h
  split at h
  · rename_i x; cases h; exact .inl ⟨x, rfl⟩
  · split at h
    · rename_i x; cases h; exact .inr ⟨x, rfl⟩
    · cases h
section
variable {n : Int} {ps : List Pi} {d : Int → Int → Int} (T : Tm n ps d)
include T
theorem ok_nm {i a : Int} (h0 : 0 ≤ i) (h1 : i < ps.length) (a0 : 0 ≤ a) (a1 : a ≤ (pr ps i).l) : okP n ps (nm ps i a) := by
  obtain ⟨x0, x1, y0, y1, l1⟩ := T.at h0 h1
  by_cases e : a = 0
  · rw [e, nm_0]; exact ⟨x0, x1⟩
  · by_cases f : a = (pr ps i).l
    · rw [f, nm_l (by omega)]; exact ⟨y0, y1⟩
    · rw [nm_mid e f]; exact ⟨h0, h1, by omega, by omega⟩
theorem Dp_nn {s q : Pl} (hs : okP n ps s) (hq : okP n ps q) : 0 ≤ Dp ps d s q := by
  have drn : ∀ {r i a : Int}, 0 ≤ r → r < n → 0 ≤ i → i < ps.length → 0 ≤ a → a ≤ (pr ps i).l → 0 ≤ dr ps d r i a := fun {r i a} r0 r1 h0 h1 a0 a1 => by
    obtain ⟨x0, x1, y0, y1, l1⟩ := T.at h0 h1
    have e1 := T.nn r0 r1 x0 x1
    have e2 := T.nn r0 r1 y0 y1
    unfold dr; omega
  rcases ok_cases hs with ⟨r, rfl, r0, r1⟩ | ⟨j, b, rfl, k0, k1, b0, b1⟩ <;> rcases ok_cases hq with ⟨t, rfl, t0, t1⟩ | ⟨i, a, rfl, h0, h1, a0, a1⟩
  · exact T.nn r0 r1 t0 t1
  · exact drn r0 r1 h0 h1 (by omega) (by omega)
  · exact drn t0 t1 k0 k1 (by omega) (by omega)
  · obtain ⟨x0, x1, y0, y1, l1⟩ := T.at k0 k1
    have e1 := drn (a := a) x0 x1 h0 h1 (by omega) (by omega)
    have e2 := drn (a := a) y0 y1 h0 h1 (by omega) (by omega)
    show 0 ≤ (if j = i then ab b a else _)
    split
    · unfold ab; split <;> omega
    · omega
theorem Dp_self {s : Pl} (hs : okP n ps s) : Dp ps d s s = 0 := by
  rcases ok_cases hs with ⟨r, rfl, r0, r1⟩ | ⟨j, b, rfl, k0, k1, b0, b1⟩
  · exact T.zero r
  · show (if j = j then ab b b else _) = 0
    rw [if_pos rfl]
    unfold ab; split <;> omega
theorem Dp_par {s : Pl} (hs : okP n ps s) {p : Pl} (hp : okP n ps p) (ne : p ≠ s) : ∃ q, Adj ps p q ∧ Dp ps d s p = Dp ps d s q + 1 := by
  rcases ok_cases hp with ⟨t, rfl, t0, t1⟩ | ⟨i, a, rfl, h0, h1, a0, a1⟩
  · obtain ⟨i, h0, h1, h⟩ := door_ex T hs t0 t1 (Ne.symm ne)
    obtain ⟨f0, f1, _, f⟩ := foot_at T hs h0 h1
    have l1 := (T.at h0 h1).2.2.2.2
    rcases h with ⟨e, g⟩ | ⟨e, g⟩
    · refine ⟨nm ps i 1, ⟨i, 0, h0, h1, by omega, by omega, .inl ⟨by rw [nm_0, e], rfl⟩⟩, ?_⟩
      have e1 := f 0 (by omega) (by omega)
      have e2 := f 1 (by omega) (by omega)
      rw [nm_0, e] at e1
      unfold ab at e1 e2
      split at e1 <;> split at e2 <;> omega
    · refine ⟨nm ps i ((pr ps i).l - 1), ⟨i, (pr ps i).l - 1, h0, h1, by omega, by omega, .inr ⟨rfl, by rw [show (pr ps i).l - 1 + 1 = (pr ps i).l by omega, nm_l (by omega), e]⟩⟩, ?_⟩
      have e1 := f (pr ps i).l (by omega) (by omega)
      have e2 := f ((pr ps i).l - 1) (by omega) (by omega)
      rw [nm_l (by omega), e] at e1
      unfold ab at e1 e2
      split at e1 <;> split at e2 <;> omega
  · obtain ⟨f0, f1, f2, f⟩ := foot_at T hs h0 h1
    have nf : foot ps d s i ≠ a := fun z => ne (by rw [f2 (by omega) (by omega), z])
    have pe : nm ps i a = [i, a] := nm_mid (by omega) (by omega)
    have e1 := f a (by omega) (by omega)
    rw [pe] at e1
    by_cases c : foot ps d s i < a
    · refine ⟨nm ps i (a - 1), ⟨i, a - 1, h0, h1, by omega, by omega, .inr ⟨rfl, by rw [show a - 1 + 1 = a by omega, pe]⟩⟩, ?_⟩
      have e2 := f (a - 1) (by omega) (by omega)
      unfold ab at e1 e2
      split at e1 <;> split at e2 <;> omega
    · refine ⟨nm ps i (a + 1), ⟨i, a, h0, h1, by omega, by omega, .inl ⟨pe.symm, rfl⟩⟩, ?_⟩
      have e2 := f (a + 1) (by omega) (by omega)
      unfold ab at e1 e2
      split at e1 <;> split at e2 <;> omega
/-! a next place of a room, nearer to the source: by which door -/
theorem near_door {s : Pl} (hs : okP n ps s) {t : Int} {q : Pl} (h : Adj ps [t] q) (hd : Dp ps d s [t] = Dp ps d s q + 1) : ∃ i, Door ps d s t i ∧ (((pr ps i).x = t ∧ q = nm ps i 1) ∨ ((pr ps i).y = t ∧ q = nm ps i ((pr ps i).l - 1))) := by
  obtain ⟨i, a, h0, h1, a0, a1, h⟩ := h
  obtain ⟨f0, f1, _, f⟩ := foot_at T hs h0 h1
  have e1 := f a a0 (by omega)
  have e2 := f (a + 1) (by omega) (by omega)
  rcases h with ⟨hp, rfl⟩ | ⟨rfl, hp⟩
  · rw [← hp] at e1
    rcases nm_one hp.symm with ⟨z, ex⟩ | ⟨z, _⟩
    · subst z
      refine ⟨i, ⟨h0, h1, .inl ⟨ex, fun w => ?_⟩⟩, .inl ⟨ex, rfl⟩⟩
      rw [w] at e1 e2
      unfold ab at e1 e2
      split at e1 <;> split at e2 <;> omega
    · omega
  · rw [← hp] at e2
    rcases nm_one hp.symm with ⟨z, _⟩ | ⟨z, ey⟩
    · omega
    · have ea : a = (pr ps i).l - 1 := by omega
      refine ⟨i, ⟨h0, h1, .inr ⟨ey, fun w => ?_⟩⟩, .inr ⟨ey, by rw [ea]⟩⟩
      rw [w] at e1 e2
      unfold ab at e1 e2
      split at e1 <;> split at e2 <;> omega
/-! a next place of a place within a pipe -/
theorem near_mid {i a : Int} (a0 : 1 ≤ a) (a1 : a ≤ (pr ps i).l - 1) {q : Pl} (h : Adj ps [i, a] q) : q = nm ps i (a - 1) ∨ q = nm ps i (a + 1) := by
  obtain ⟨j, b, h0, h1, b0, b1, h⟩ := h
  rcases h with ⟨hp, rfl⟩ | ⟨rfl, hp⟩
  · obtain ⟨e1, e2, _, _⟩ := nm_two hp.symm
    subst e1 e2
    exact .inr rfl
  · obtain ⟨e1, e2, _, _⟩ := nm_two hp.symm
    subst e1
    left
    rw [← e2, show b + 1 - 1 = b by omega]
theorem Dp_uni {s : Pl} (hs : okP n ps s) {p : Pl} (hp : okP n ps p) {q q' : Pl} (h : Adj ps p q) (h' : Adj ps p q') (e : Dp ps d s p = Dp ps d s q + 1) (e' : Dp ps d s p = Dp ps d s q' + 1) : q = q' := by
  rcases ok_cases hp with ⟨t, rfl, t0, t1⟩ | ⟨i, a, rfl, h0, h1, a0, a1⟩
  · obtain ⟨i, d1, c1⟩ := near_door T hs h e
    obtain ⟨i', d2, c2⟩ := near_door T hs h' e'
    have ii := door_uni T hs t0 t1 d1 d2
    subst ii
    have o := (T.own d1.1 d1.2.1).2.2
    rcases c1 with ⟨a1, a2⟩ | ⟨a1, a2⟩ <;> rcases c2 with ⟨b1, b2⟩ | ⟨b1, b2⟩
    · rw [a2, b2]
    · exact absurd (a1.trans b1.symm) o
    · exact absurd (b1.trans a1.symm) o
    · rw [a2, b2]
  · obtain ⟨f0, f1, f2, f⟩ := foot_at T hs h0 h1
    have pe : nm ps i a = [i, a] := nm_mid (by omega) (by omega)
    have g1 := f a (by omega) (by omega)
    have g2 := f (a - 1) (by omega) (by omega)
    have g3 := f (a + 1) (by omega) (by omega)
    rw [pe] at g1
    rcases near_mid T a0 a1 h with rfl | rfl <;> rcases near_mid T a0 a1 h' with rfl | rfl
    · rfl
    · unfold ab at g1 g2 g3; split at g1 <;> split at g2 <;> split at g3 <;> omega
    · unfold ab at g1 g2 g3; split at g1 <;> split at g2 <;> split at g3 <;> omega
    · rfl
theorem ok_adj {p q : Pl} (h : Adj ps p q) : okP n ps q := by
  obtain ⟨i, a, h0, h1, a0, a1, h⟩ := h
  rcases h with ⟨_, rfl⟩ | ⟨rfl, _⟩
  · exact ok_nm T h0 h1 (by omega) (by omega)
  · exact ok_nm T h0 h1 (by omega) (by omega)
theorem Tm.places {s : Pl} (hs : okP n ps s) : Sr s (okP n ps) (Dp ps d s) (fun p q w => Adj ps p q ∧ w = 1) where
  zero := Dp_self T hs
  here := hs
  nn := fun v h => Dp_nn T hs h
  wt := fun u v w _ h => by rw [h.2]; exact Int.le_refl 1
  cl := fun u v w _ h => ok_adj T h.1
  sym := fun u v w h => ⟨h.1.symm, h.2⟩
  step := fun u v w _ h => by rw [h.2]; exact Dp_step T hs h.1
  par := fun v hv ne => by
    obtain ⟨q, h1, h2⟩ := Dp_par T hs hv ne
    exact ⟨q, 1, ⟨h1, rfl⟩, h2⟩
  uni := fun v u w u' w' hv h h' e e' => by
    rw [h.2] at e
    rw [h'.2] at e'
    exact Dp_uni T hs hv h.1 h'.1 e e'
end
end Rw

namespace Rw
/-! ### distances of places are a metric; what lies on the row between two -/
section
variable {n : Int} {ps : List Pi} {d : Int → Int → Int} (T : Tm n ps d)
include T
theorem Dp_sym {p q : Pl} (hp : okP n ps p) (hq : okP n ps q) : Dp ps d p q = Dp ps d q p := by
  rcases ok_cases hp with ⟨r, rfl, r0, r1⟩ | ⟨i, b, rfl, h0, h1, b0, b1⟩ <;> rcases ok_cases hq with ⟨t, rfl, t0, t1⟩ | ⟨j, a, rfl, k0, k1, a0, a1⟩
  · exact T.sym r t
  · rfl
  · rfl
  · show (if i = j then ab b a else min (b + dr ps d (pr ps i).x j a) ((pr ps i).l - b + dr ps d (pr ps i).y j a)) = (if j = i then ab a b else min (a + dr ps d (pr ps j).x i b) ((pr ps j).l - a + dr ps d (pr ps j).y i b))
    by_cases e : i = j
    · rw [if_pos e, if_pos e.symm]; unfold ab; split <;> split <;> omega
    · rw [if_neg e, if_neg (Ne.symm e)]
      unfold dr
      rw [T.sym (pr ps j).x (pr ps i).x, T.sym (pr ps j).x (pr ps i).y, T.sym (pr ps j).y (pr ps i).x, T.sym (pr ps j).y (pr ps i).y]
      omega
theorem Dp_eq0 {p q : Pl} (hp : okP n ps p) (hq : okP n ps q) (h : Dp ps d p q = 0) : p = q := by
  apply Classical.byContradiction
  intro ne
  obtain ⟨z, az, ez⟩ := Dp_par T hp hq (Ne.symm ne)
  have := Dp_nn T hp (ok_adj T az)
  omega
theorem Dp_pos {p q : Pl} (hp : okP n ps p) (hq : okP n ps q) (h : p ≠ q) : 1 ≤ Dp ps d p q := by
  have h1 := Dp_nn T hp hq
  by_cases e : Dp ps d p q = 0
  · exact absurd (Dp_eq0 T hp hq e) h
  · omega
theorem Dp_tri {x y : Pl} (hx : okP n ps x) (hy : okP n ps y) : ∀ (k : Nat) (z : Pl), okP n ps z → (Dp ps d y z).toNat = k → Dp ps d x z ≤ Dp ps d x y + Dp ps d y z
  | 0, z, hz, e => by
    have h1 := Dp_nn T hy hz
    have e0 := Dp_eq0 T hy hz (by omega)
    subst e0
    omega
  | k + 1, z, hz, e => by
    have h1 := Dp_nn T hy hz
    have ne : z ≠ y := fun w => by rw [w, Dp_self T hy] at e; cases e
    obtain ⟨u, au, eu⟩ := Dp_par T hy hz ne
    have ou := ok_adj T au
    have ih := Dp_tri hx hy k u ou (by omega)
    have st := Dp_step T hx au
    omega
theorem Dp_le {x y z : Pl} (hx : okP n ps x) (hy : okP n ps y) (hz : okP n ps z) : Dp ps d x z ≤ Dp ps d x y + Dp ps d y z := Dp_tri T hx hy _ z hz rfl
/-! on the row between two: the sums -/
def Btw (ps : List Pi) (d : Int → Int → Int) (x z y : Pl) : Prop := Dp ps d x y + Dp ps d y z = Dp ps d x z
/-! the one nearer to x, from z on: between y and z, too -/
theorem btw_par {x y z u : Pl} (hx : okP n ps x) (hy : okP n ps y) (hz : okP n ps z) (h : Btw ps d x z y) (ne : y ≠ z) (au : Adj ps z u) (eu : Dp ps d x z = Dp ps d x u + 1) : Btw ps d x u y ∧ Dp ps d y z = Dp ps d y u + 1 := by
  obtain ⟨w, aw, ew⟩ := Dp_par T hy hz (Ne.symm ne)
  have ow := ok_adj T aw
  have t := Dp_le T hx hy ow
  have s := Dp_step T hx aw
  unfold Btw at h
  have e : Dp ps d x z = Dp ps d x w + 1 := by omega
  have : u = w := Dp_uni T hx hz au aw eu e
  subst this
  exact ⟨by unfold Btw; omega, ew⟩
theorem btw_up {x y z u : Pl} (hx : okP n ps x) (hy : okP n ps y) (hz : okP n ps z) (h : Btw ps d x u y) (au : Adj ps z u) (eu : Dp ps d x z = Dp ps d x u + 1) : Btw ps d x z y := by
  have t := Dp_le T hx hy hz
  have s := Dp_step T hy au
  have ou := ok_adj T au
  unfold Btw at h ⊢
  have t2 := Dp_le T hx hy ou
  omega
theorem btw_refl {x z : Pl} (hx : okP n ps x) (hz : okP n ps z) : Btw ps d x z x ∧ Btw ps d x z z := by
  unfold Btw
  rw [Dp_self T hx, Dp_self T hz]
  omega
/-! two places on the row, as far from its beginning, are one -/
theorem btw_one {x y y' : Pl} (hx : okP n ps x) (hy : okP n ps y) (hy' : okP n ps y') : ∀ (k : Nat) (z : Pl), okP n ps z → (Dp ps d y z).toNat = k → Btw ps d x z y → Btw ps d x z y' → Dp ps d x y = Dp ps d x y' → y = y'
  | 0, z, hz, e, h, h', ed => by
    have h1 := Dp_nn T hy hz
    have h2 := Dp_nn T hy' hz
    unfold Btw at h h'
    rw [Dp_eq0 T hy hz (by omega), Dp_eq0 T hy' hz (by omega)]
  | k + 1, z, hz, e, h, h', ed => by
    have h1 := Dp_nn T hy hz
    have h2 := Dp_nn T hy' hz
    have b1 : y ≠ z := fun w => by rw [w, Dp_self T hz] at e; cases e
    have b2 : y' ≠ z := fun w => by
      unfold Btw at h h'
      rw [w, Dp_self T hz] at h'
      have := Dp_eq0 T hy hz (by rw [w] at ed; omega)
      exact b1 this
    have nx : z ≠ x := fun w => by
      unfold Btw at h
      rw [w, Dp_self T hx] at h
      have := Dp_nn T hx hy
      have := Dp_nn T hy hx
      rw [w] at h1
      exact b1 (by rw [w]; exact Dp_eq0 T hy hx (by omega))
    obtain ⟨u, au, eu⟩ := Dp_par T hx hz nx
    have p1 := btw_par T hx hy hz h b1 au eu
    have p2 := btw_par T hx hy' hz h' b2 au eu
    exact btw_one hx hy hy' k u (ok_adj T au) (by omega) p1.1 p2.1 ed
end
end Rw

namespace Rw
/-! ### steps, one by one -/
def AdjTo (ps : List Pi) (i k : Int) (p q : Pl) : Prop := ∃ j a : Int, 0 ≤ j ∧ (j < i ∧ 0 ≤ a ∧ a < (pr ps j).l ∨ j = i ∧ 0 ≤ a ∧ a < k) ∧ ((p = nm ps j a ∧ q = nm ps j (a + 1)) ∨ (q = nm ps j a ∧ p = nm ps j (a + 1)))
theorem AdjTo.all {ps : List Pi} {p q : Pl} : AdjTo ps ps.length 0 p q ↔ Adj ps p q := by
  constructor
  · rintro ⟨j, a, h0, h | h, r⟩
    · exact ⟨j, a, h0, h.1, h.2.1, h.2.2, r⟩
    · omega
  · rintro ⟨j, a, h0, h1, h2, h3, r⟩
    exact ⟨j, a, h0, .inl ⟨h1, h2, h3⟩, r⟩
theorem AdjTo.next {ps : List Pi} {i : Int} (hi : 0 ≤ i) {p q : Pl} : AdjTo ps i (pr ps i).l p q ↔ AdjTo ps (i + 1) 0 p q := by
  constructor
  · rintro ⟨j, a, h0, h | h, r⟩
    · exact ⟨j, a, h0, .inl ⟨by omega, h.2.1, h.2.2⟩, r⟩
    · exact ⟨j, a, h0, .inl ⟨by omega, h.2.1, by rw [h.1]; exact h.2.2⟩, r⟩
  · rintro ⟨j, a, h0, h | h, r⟩
    · by_cases e : j = i
      · exact ⟨j, a, h0, .inr ⟨e, h.2.1, by rw [← e]; exact h.2.2⟩, r⟩
      · exact ⟨j, a, h0, .inl ⟨by omega, h.2.1, h.2.2⟩, r⟩
    · omega
theorem AdjTo.step {ps : List Pi} {i k : Int} (hi : 0 ≤ i) (hk : 0 ≤ k) {p q : Pl} : AdjTo ps i (k + 1) p q ↔ (AdjTo ps i k p q ∨ (p = nm ps i k ∧ q = nm ps i (k + 1))) ∨ (p = nm ps i (k + 1) ∧ q = nm ps i k) := by
  constructor
  · rintro ⟨j, a, h0, h | h, r⟩
    · exact .inl (.inl ⟨j, a, h0, .inl h, r⟩)
    · by_cases e : a = k
      · obtain ⟨rfl, _⟩ := h
        subst e
        rcases r with ⟨r1, r2⟩ | ⟨r1, r2⟩
        · exact .inl (.inr ⟨r1, r2⟩)
        · exact .inr ⟨r2, r1⟩
      · exact .inl (.inl ⟨j, a, h0, .inr ⟨h.1, h.2.1, by omega⟩, r⟩)
  · rintro ((⟨j, a, h0, h | h, r⟩ | ⟨r1, r2⟩) | ⟨r1, r2⟩)
    · exact ⟨j, a, h0, .inl h, r⟩
    · exact ⟨j, a, h0, .inr ⟨h.1, h.2.1, by omega⟩, r⟩
    · exact ⟨i, k, hi, .inr ⟨rfl, hk, by omega⟩, .inl ⟨r1, r2⟩⟩
    · exact ⟨i, k, hi, .inr ⟨rfl, hk, by omega⟩, .inr ⟨r2, r1⟩⟩
section
variable {n : Int} {ps : List Pi} {d : Int → Int → Int} (T : Tm n ps d)
include T
theorem nm_inj {i a b : Int} (h0 : 0 ≤ i) (h1 : i < ps.length) (a0 : 0 ≤ a) (a1 : a ≤ (pr ps i).l) (b0 : 0 ≤ b) (b1 : b ≤ (pr ps i).l) (h : nm ps i a = nm ps i b) : a = b := by
  have o := (T.own h0 h1).2.2
  have l1 := (T.at h0 h1).2.2.2.2
  by_cases ea : a = 0
  · subst ea
    rw [nm_0] at h
    rcases nm_one h.symm with ⟨z, _⟩ | ⟨_, z⟩
    · exact z.symm
    · exact absurd z.symm o
  · by_cases el : a = (pr ps i).l
    · rw [el, nm_l (by omega)] at h
      rcases nm_one h.symm with ⟨_, z⟩ | ⟨z, _⟩
      · exact absurd z o
      · rw [el, z]
    · rw [nm_mid ea el] at h
      obtain ⟨_, z, _, _⟩ := nm_two h.symm
      exact z.symm
/-! one step has one name -/
theorem step_one {i a j b : Int} (h0 : 0 ≤ i) (h1 : i < ps.length) (a0 : 0 ≤ a) (a1 : a < (pr ps i).l) (k0 : 0 ≤ j) (k1 : j < ps.length) (b0 : 0 ≤ b) (b1 : b < (pr ps j).l)
    (h : (nm ps i a = nm ps j b ∧ nm ps i (a + 1) = nm ps j (b + 1)) ∨ (nm ps i a = nm ps j (b + 1) ∧ nm ps i (a + 1) = nm ps j b)) : i = j ∧ a = b := by
  have same : i = j → a = b := fun e => by
    subst e
    rcases h with ⟨z, _⟩ | ⟨z1, z2⟩
    · exact nm_inj T h0 h1 a0 (by omega) b0 (by omega) z
    · have w1 := nm_inj T h0 h1 a0 (by omega) (by omega) (by omega) z1
      have w2 := nm_inj T h0 h1 (by omega) (by omega) b0 (by omega) z2
      omega
  suffices i = j from ⟨this, same this⟩
  by_cases e0 : a = 0
  · by_cases e1 : a + 1 = (pr ps i).l
    · -- a pipe of one step
      subst e0
      have x1 : nm ps i 0 = [(pr ps i).x] := nm_0 ps i
      have x2 : nm ps i (0 + 1) = [(pr ps i).y] := by rw [e1, nm_l (by omega)]
      rw [x1, x2] at h
      have ob : b = 0 ∧ b + 1 = (pr ps j).l := by
        rcases h with ⟨z1, z2⟩ | ⟨z1, z2⟩
        · rcases nm_one z1.symm with ⟨w, _⟩ | ⟨w, _⟩ <;> rcases nm_one z2.symm with ⟨u, _⟩ | ⟨u, _⟩ <;> omega
        · rcases nm_one z1.symm with ⟨w, _⟩ | ⟨w, _⟩ <;> rcases nm_one z2.symm with ⟨u, _⟩ | ⟨u, _⟩ <;> omega
      obtain ⟨rfl, ob⟩ := ob
      have y1 : nm ps j 0 = [(pr ps j).x] := nm_0 ps j
      have y2 : nm ps j (0 + 1) = [(pr ps j).y] := by rw [ob, nm_l (by omega)]
      rw [y1, y2] at h
      obtain ⟨p0, p1, p2, p3, _⟩ := T.at h0 h1
      have o1 := (T.own h0 h1).1
      have z0 := T.zero (pr ps i).x
      have d1 : Dn ps d (pr ps i).x (pr ps i).y i.toNat := ⟨_, (pr_mem h0 h1).2, .inr ⟨rfl, by omega⟩⟩
      have d2 : Dn ps d (pr ps i).x (pr ps i).y j.toNat := by
        refine ⟨_, (pr_mem k0 k1).2, ?_⟩
        rcases h with ⟨z1, z2⟩ | ⟨z1, z2⟩
        · have w1 : (pr ps i).x = (pr ps j).x := by simpa using z1
          have w2 : (pr ps i).y = (pr ps j).y := by simpa using z2
          exact .inr ⟨w2.symm, by rw [← w1]; omega⟩
        · have w1 : (pr ps i).x = (pr ps j).y := by simpa using z1
          have w2 : (pr ps i).y = (pr ps j).x := by simpa using z2
          exact .inl ⟨w2.symm, by rw [← w1]; omega⟩
      have := T.uni _ _ _ _ p0 p1 p2 p3 d1 d2
      omega
    · have m : nm ps i (a + 1) = [i, a + 1] := nm_mid (by omega) e1
      rw [m] at h
      rcases h with ⟨_, z⟩ | ⟨_, z⟩
      · exact (nm_two z.symm).1.symm
      · exact (nm_two z.symm).1.symm
  · have m : nm ps i a = [i, a] := nm_mid e0 (by omega)
    rw [m] at h
    rcases h with ⟨z, _⟩ | ⟨z, _⟩
    · exact (nm_two z.symm).1.symm
    · exact (nm_two z.symm).1.symm
theorem not_yet {i k : Int} (h0 : 0 ≤ i) (h1 : i < ps.length) (k0 : 0 ≤ k) (k1 : k < (pr ps i).l) : ¬ AdjTo ps i k (nm ps i k) (nm ps i (k + 1)) := by
  rintro ⟨j, a, j0, h | h, r⟩
  · have z := step_one T h0 h1 k0 k1 j0 (by omega) h.2.1 h.2.2 (r.elim (fun w => .inl w) (fun w => .inr ⟨w.2, w.1⟩))
    omega
  · obtain ⟨rfl, a0, a1⟩ := h
    have z := step_one T h0 h1 k0 k1 h0 h1 a0 (by omega) (r.elim (fun w => .inl w) (fun w => .inr ⟨w.2, w.1⟩))
    omega
theorem AdjTo.sym' {i k : Int} {p q : Pl} (h : AdjTo ps i k p q) : AdjTo ps i k q p := by
  obtain ⟨j, a, h0, h1, r⟩ := h
  exact ⟨j, a, h0, h1, r.symm⟩
theorem nm_next {i k : Int} (h0 : 0 ≤ i) (h1 : i < ps.length) (k0 : 0 ≤ k) (k1 : k < (pr ps i).l) : nm ps i k ≠ nm ps i (k + 1) := fun z => by
  have := nm_inj T h0 h1 k0 (by omega) (by omega) (by omega) z
  omega
end
end Rw

namespace Rw
/-! ### rows of places, piece by piece: a piece is [pipe, begin, stop] -/
def plen (c : List Int) : Int := ab (c.getD 1 0) (c.getD 2 0)
def pat (c : List Int) (k : Int) : Int := if c.getD 1 0 < c.getD 2 0 then c.getD 1 0 + k else c.getD 1 0 - k
def ptot : List (List Int) → Int
  | [] => 0
  | c :: r => plen c + ptot r
def PcOk (ps : List Pi) (c : List Int) : Prop := ∃ i b e : Int, c = [i, b, e] ∧ 0 ≤ i ∧ i < ps.length ∧ 0 ≤ b ∧ b ≤ (pr ps i).l ∧ 0 ≤ e ∧ e ≤ (pr ps i).l
def beg (ps : List Pi) (c : List Int) : Pl := nm ps (c.getD 0 0) (c.getD 1 0)
def fin' (ps : List Pi) (c : List Int) : Pl := nm ps (c.getD 0 0) (c.getD 2 0)
inductive Chn (ps : List Pi) : Pl → List (List Int) → Pl → Prop
  | nil (p : Pl) : Chn ps p [] p
  | cons {c : List Int} {r : List (List Int)} {q : Pl} : PcOk ps c → Chn ps (fin' ps c) r q → Chn ps (beg ps c) (c :: r) q
theorem Chn.snoc {ps : List Pi} {p q : Pl} {r : List (List Int)} (h : Chn ps p r q) : ∀ {c : List Int}, PcOk ps c → q = beg ps c → Chn ps p (r ++ [c]) (fin' ps c) := by
  induction h with
  | nil p =>
    intro c ok e
    subst e
    exact .cons ok (.nil _)
  | cons ok' _ ih =>
    intro c ok e
    exact .cons ok' (ih ok e)
theorem ptot_snoc (r : List (List Int)) (c : List Int) : ptot (r ++ [c]) = ptot r + plen c := by
  induction r with
  | nil => show plen c + 0 = 0 + plen c; omega
  | cons a r ih => show plen a + ptot (r ++ [c]) = plen a + ptot r + plen c; rw [ih]; omega
def along (ps : List Pi) : List (List Int) → Int → Pl
  | [], _ => []
  | [c], k => nm ps (c.getD 0 0) (pat c k)
  | c :: r, k => if k ≤ plen c then nm ps (c.getD 0 0) (pat c k) else along ps r (k - plen c)
section
variable {n : Int} {ps : List Pi} {d : Int → Int → Int} (T : Tm n ps d)
include T
theorem nm_dist {i a b : Int} (h0 : 0 ≤ i) (h1 : i < ps.length) (a0 : 0 ≤ a) (a1 : a ≤ (pr ps i).l) (b0 : 0 ≤ b) (b1 : b ≤ (pr ps i).l) : Dp ps d (nm ps i a) (nm ps i b) = ab a b := by
  have oa := ok_nm T h0 h1 a0 a1
  obtain ⟨f0, f1, _, f⟩ := foot_at T oa h0 h1
  have e1 := f a a0 a1
  have e2 := f b b0 b1
  rw [Dp_self T oa] at e1
  have nn := Dp_nn T oa (ok_nm T h0 h1 f0 f1)
  unfold ab at *
  split at e1 <;> split at e2 <;> split <;> omega
theorem chn_ok {p q : Pl} {r : List (List Int)} (h : Chn ps p r q) (hq : okP n ps q) : okP n ps p := by
  cases h with
  | nil => exact hq
  | cons ok _ =>
    obtain ⟨i, b, e, rfl, h0, h1, b0, b1, e0, e1⟩ := ok
    exact ok_nm T h0 h1 b0 b1
theorem plen_nn {c : List Int} : 0 ≤ plen c := by unfold plen ab; split <;> omega
theorem chn_le {p q : Pl} {r : List (List Int)} (h : Chn ps p r q) (hq : okP n ps q) : Dp ps d p q ≤ ptot r := by
  induction h with
  | nil p => rw [Dp_self T hq]; exact Int.le_refl 0
  | @cons c r q ok h ih =>
    have okr := chn_ok T h hq
    have i1 := ih hq
    obtain ⟨i, b, e, rfl, h0, h1, b0, b1, e0, e1⟩ := ok
    have okp := ok_nm T h0 h1 b0 b1
    have t := Dp_le T okp okr hq
    have ed : Dp ps d (nm ps i b) (nm ps i e) = ab b e := nm_dist T h0 h1 b0 b1 e0 e1
    show Dp ps d (nm ps i b) q ≤ ab b e + ptot r
    have t' : Dp ps d (nm ps i b) q ≤ Dp ps d (nm ps i b) (nm ps i e) + Dp ps d (nm ps i e) q := t
    have i1' : Dp ps d (nm ps i e) q ≤ ptot r := i1
    omega
/-! within a piece -/
theorem pat_in {i b e k : Int} (h0 : 0 ≤ i) (h1 : i < ps.length) (b0 : 0 ≤ b) (b1 : b ≤ (pr ps i).l) (e0 : 0 ≤ e) (e1 : e ≤ (pr ps i).l) (k0 : 0 ≤ k) (k1 : k ≤ ab b e) :
    okP n ps (nm ps i (pat [i, b, e] k)) ∧ Dp ps d (nm ps i b) (nm ps i (pat [i, b, e] k)) = k ∧ Dp ps d (nm ps i (pat [i, b, e] k)) (nm ps i e) = ab b e - k := by
  have ep : pat [i, b, e] k = if b < e then b + k else b - k := rfl
  have r0 : 0 ≤ pat [i, b, e] k := by rw [ep]; unfold ab at k1; split at k1 <;> split <;> omega
  have r1 : pat [i, b, e] k ≤ (pr ps i).l := by rw [ep]; unfold ab at k1; split at k1 <;> split <;> omega
  refine ⟨ok_nm T h0 h1 r0 r1, ?_, ?_⟩
  · rw [nm_dist T h0 h1 b0 b1 r0 r1, ep]
    unfold ab at *
    split at k1 <;> split <;> split <;> omega
  · rw [nm_dist T h0 h1 r0 r1 e0 e1, ep]
    unfold ab at *
    split at k1 <;> split <;> split <;> omega
theorem along_at {p q : Pl} {r : List (List Int)} (h : Chn ps p r q) : ∀ (hq : okP n ps q) (ht : ptot r = Dp ps d p q) {k : Int} (k0 : 1 ≤ k) (k1 : k ≤ ptot r),
    okP n ps (along ps r k) ∧ Dp ps d p (along ps r k) = k ∧ Dp ps d (along ps r k) q = ptot r - k := by
  induction h with
  | nil p =>
    intro hq ht k k0 k1
    have : ptot [] = 0 := rfl
    omega
  | @cons c r q ok h ih =>
    intro hq ht k k0 k1
    have okr := chn_ok T h hq
    have le := chn_le T h hq
    obtain ⟨i, b, e, rfl, h0, h1, b0, b1, e0, e1⟩ := ok
    have okp : okP n ps (nm ps i b) := ok_nm T h0 h1 b0 b1
    have ed : Dp ps d (nm ps i b) (nm ps i e) = ab b e := nm_dist T h0 h1 b0 b1 e0 e1
    have okr' : okP n ps (nm ps i e) := okr
    have le' : Dp ps d (nm ps i e) q ≤ ptot r := le
    have t := Dp_le T okp okr' hq
    have pt : ptot ([i, b, e] :: r) = ab b e + ptot r := rfl
    have ht' : ab b e + ptot r = Dp ps d (nm ps i b) q := ht
    have er : ptot r = Dp ps d (nm ps i e) q := by omega
    have near : k ≤ ab b e → okP n ps (nm ps i (pat [i, b, e] k)) ∧ Dp ps d (nm ps i b) (nm ps i (pat [i, b, e] k)) = k ∧ Dp ps d (nm ps i (pat [i, b, e] k)) q = ptot ([i, b, e] :: r) - k := fun c => by
      obtain ⟨z1, z2, z3⟩ := pat_in T h0 h1 b0 b1 e0 e1 (k := k) (by omega) c
      refine ⟨z1, z2, ?_⟩
      have t1 := Dp_le T z1 okr' hq
      have t2 := Dp_le T okp z1 hq
      omega
    cases r with
    | nil =>
      have pn : ptot [] = 0 := rfl
      exact near (by omega)
    | cons c2 r2 =>
      have ea : along ps ([i, b, e] :: c2 :: r2) k = if k ≤ plen [i, b, e] then nm ps i (pat [i, b, e] k) else along ps (c2 :: r2) (k - plen [i, b, e]) := rfl
      have pl : plen [i, b, e] = ab b e := rfl
      rw [ea, pl]
      by_cases c : k ≤ ab b e
      · rw [if_pos c]; exact near c
      · rw [if_neg c]
        obtain ⟨z1, z2, z3⟩ := ih hq er (k := k - ab b e) (by omega) (by omega)
        have z2' : Dp ps d (nm ps i e) (along ps (c2 :: r2) (k - ab b e)) = k - ab b e := z2
        refine ⟨z1, ?_, by omega⟩
        have t1 := Dp_le T okp okr' z1
        have t2 := Dp_le T okp z1 hq
        show Dp ps d (nm ps i b) _ = k
        have ht2 : Dp ps d (nm ps i b) q = ab b e + ptot (c2 :: r2) := ht'.symm
        omega
end
end Rw

namespace Rw
section
variable {n : Int} {ps : List Pi} {d : Int → Int → Int} (T : Tm n ps d)
include T
theorem adj_one {p q : Pl} (hp : okP n ps p) (a : Adj ps p q) : Dp ps d p q = 1 := by
  have st := Dp_step T hp a
  have nn := Dp_nn T hp (ok_adj T a)
  rw [Dp_self T hp] at st
  rcases st with z | z <;> omega
/-! of three places one lies between each two -/
theorem mid_ex {p r : Pl} (hp : okP n ps p) (hr : okP n ps r) : ∀ (k : Nat) (q : Pl), okP n ps q → (Dp ps d p q).toNat = k → ∃ m, okP n ps m ∧ Btw ps d p q m ∧ Btw ps d p r m ∧ Btw ps d q r m
  | 0, q, hq, e => by
    have nn := Dp_nn T hp hq
    have z := Dp_eq0 T hp hq (by omega)
    subst z
    exact ⟨p, hp, (btw_refl T hp hp).1, (btw_refl T hp hr).1, (btw_refl T hp hr).1⟩
  | k + 1, q, hq, e => by
    have ne : q ≠ p := fun z => by rw [z, Dp_self T hp] at e; cases e
    obtain ⟨u, au, eu⟩ := Dp_par T hp hq ne
    have hu := ok_adj T au
    obtain ⟨m, hm, b1, b2, b3⟩ := mid_ex hp hr k u hu (by omega)
    have b1' : Dp ps d p m + Dp ps d m u = Dp ps d p u := b1
    have b2' : Dp ps d p m + Dp ps d m r = Dp ps d p r := b2
    have b3' : Dp ps d u m + Dp ps d m r = Dp ps d u r := b3
    have s1 := Dp_sym T hu hm
    have s2 := Dp_sym T hq hm
    have s3 := Dp_sym T hq hr
    have s4 := Dp_sym T hu hr
    have s5 := Dp_sym T hm hr
    have o1 := adj_one T hq au
    have o2 := Dp_sym T hq hu
    rcases Dp_step T hr au with z | z
    · -- q is nearer than u
      by_cases c : m = u
      · subst c
        refine ⟨q, hq, (btw_refl T hp hq).2, ?_, (btw_refl T hq hr).1⟩
        show Dp ps d p q + Dp ps d q r = Dp ps d p r
        omega
      · exfalso
        obtain ⟨x, ax, ex⟩ := Dp_par T hm hu (Ne.symm c)
        have hx := ok_adj T ax
        have s6 := Dp_sym T hx hr
        have s7 := Dp_sym T hm hx
        have t1 := Dp_le T hx hm hr
        have t2 := Dp_le T hp hm hx
        have stx := Dp_step T hr ax
        have s8 := Dp_sym T hp hu
        have exr : Dp ps d r u = Dp ps d r x + 1 := by rcases stx with w | w <;> omega
        have equ : x = q := Dp_uni T hr hu ax au.symm exr z
        subst equ
        omega
    · -- u is nearer
      have t1 := Dp_le T hq hu hm
      have t2 := Dp_le T hq hm hr
      have t3 := Dp_le T hp hm hq
      refine ⟨m, hm, ?_, b2, ?_⟩
      · show Dp ps d p m + Dp ps d m q = Dp ps d p q
        omega
      · show Dp ps d q m + Dp ps d m r = Dp ps d q r
        omega
theorem mid_of {p q r : Pl} (hp : okP n ps p) (hq : okP n ps q) (hr : okP n ps r) : ∃ k : Int, Dp ps d p q + Dp ps d p r - Dp ps d q r = 2 * k ∧ 0 ≤ k ∧ k ≤ Dp ps d p q ∧ k ≤ Dp ps d p r ∧
    ∀ z, okP n ps z → Dp ps d p z = k → Dp ps d z q = Dp ps d p q - k → Dp ps d z r = Dp ps d p r - k ∧ Btw ps d p r z ∧ Btw ps d q r z := by
  obtain ⟨m, hm, b1, b2, b3⟩ := mid_ex T hp hr _ q hq rfl
  have b1' : Dp ps d p m + Dp ps d m q = Dp ps d p q := b1
  have b2' : Dp ps d p m + Dp ps d m r = Dp ps d p r := b2
  have b3' : Dp ps d q m + Dp ps d m r = Dp ps d q r := b3
  have s1 := Dp_sym T hq hm
  have n1 := Dp_nn T hp hm
  have n2 := Dp_nn T hm hq
  have n3 := Dp_nn T hm hr
  refine ⟨Dp ps d p m, by omega, n1, by omega, by omega, fun z hz e1 e2 => ?_⟩
  have ez : z = m := btw_one T hp hz hm _ q hq rfl (show Dp ps d p z + Dp ps d z q = Dp ps d p q by omega) b1 e1
  subst ez
  exact ⟨by omega, b2, b3⟩
end
end Rw

namespace Rw
open PySem PySem.Spec PyProof.Rows L2
theorem walk_enumT {K : PySem.W.Frag} {a : Addr} {xs : List V} : Walk (IteT K a) xs.length (fun H => SqT K H a xs) (YPair (fun i => some (.int (i : Nat))) (fun i => xs[i]?)) := by
  refine ⟨fun i _ hi q => ⟨xs, xs[i], q, by simp [hi]⟩, fun _ q => ⟨xs, q, Nat.le_refl _⟩, fun i H v H' _ q y => ?_⟩
  obtain ⟨T, x, z1, z2, z3, z4⟩ := y
  exact ⟨T, _, x, z1, z2, z3, rfl, z4 xs q⟩
theorem Keep.fr {H J : Hp} {p : Addr} (k : Keep [] H J) (n : J p = none) : H p = none := by
  cases e : H p with
  | none => rfl
  | some o => rw [k p o e List.not_mem_nil] at n; cases n
/-! a house, as the program is given it -/
structure HouseOk (n : Int) (ps : List Pi) : Prop where
  n1 : 1 ≤ n
  n2 : n ≤ 16
  len : (ps.length : Int) = n - 1
  ok : ∀ p ∈ ps, p.ok n
theorem HouseOk.at {n : Int} {ps : List Pi} (h : HouseOk n ps) {i : Nat} (hi : i < ps.length) : (pr ps (i : Int)).ok n ∧ ps[i]? = some (pr ps (i : Int)) := by
  have e := pr_mem (ps := ps) (i := (i : Int)) (by omega) (by omega)
  exact ⟨h.ok _ e.1, by rw [show ((i : Int)).toNat = i by omega] at e; exact e.2⟩
/-! ### the doors of each room -/
def doorRow (ps : List Pi) (r : Int) (j : Nat) : List (List Int) :=
  (if (pr ps (j : Int)).x = r then [[(j : Int), 0, (pr ps (j : Int)).y, (pr ps (j : Int)).l]] else []) ++ (if (pr ps (j : Int)).y = r then [[(j : Int), (pr ps (j : Int)).l, (pr ps (j : Int)).x, 0]] else [])
def doorsTo (ps : List Pi) (r : Int) (i : Nat) : List (List Int) := (List.range i).flatMap (doorRow ps r)
theorem doorsTo_succ (ps : List Pi) (r : Int) (i : Nat) : doorsTo ps r (i + 1) = doorsTo ps r i ++ doorRow ps r i := by
  unfold doorsTo
  rw [List.range_succ, List.flatMap_append]
  simp
/-! lists of rows of ints, each at its own address -/
def Rws (av : List Addr) (G : Hp) (ds : List Addr) (f : Nat → List (List Int)) (m : Nat) : Prop := ∀ (r : Nat) (a : Addr), ds[r]? = some a → ∃ ts, G a = some (.lst ts) ∧ Dts av G ts ((f r).map tupI) ∧ ts.length ≤ m
theorem Rws.new {av : List Addr} {G : Hp} {ds : List Addr} {f : Nat → List (List Int)} {m : Nat} {p : Addr} {o : HO} (h : Rws av G ds f m) (n : G p = none) : Rws av (upd G p o) ds f m := fun r a e => by
  obtain ⟨ts, h1, h2, h3⟩ := h r a e
  exact ⟨ts, by rw [upd_ne (ne_of_none h1 n)]; exact h1, h2.keep (Keep.new n), h3⟩
theorem Rws.less {av av' : List Addr} {G : Hp} {ds : List Addr} {f : Nat → List (List Int)} {m : Nat} (h : Rws av G ds f m) (s : ∀ a ∈ av', a ∈ av) : Rws av' G ds f m := fun r a e => by
  obtain ⟨ts, h1, h2, h3⟩ := h r a e
  exact ⟨ts, h1, h2.less s, h3⟩
theorem nodup_at {ds : List Addr} (nd : ds.Nodup) {r s : Nat} {a : Addr} (h : ds[r]? = some a) (h' : ds[s]? = some a) : r = s := by
  obtain ⟨h1, e1⟩ := List.getElem?_eq_some_iff.mp h
  obtain ⟨h2, e2⟩ := List.getElem?_eq_some_iff.mp h'
  exact (List.getElem_inj nd).mp (e1.trans e2.symm)
theorem dts_ints {av : List Addr} {H : Hp} (ns : List Int) : Dts av H (ns.map V.int) (ns.map PyData.int) := Dts.ints ns
theorem Rws.put {av : List Addr} {G : Hp} {ds : List Addr} {f : Nat → List (List Int)} {m : Nat} (h : Rws av G ds f m) (sub : ∀ a ∈ ds, a ∈ av) (nd : ds.Nodup) (tr : Tr av G) {r0 : Nat} {a0 t : Addr} {ts0 : List V} {ns : List Int} (e0 : ds[r0]? = some a0) (g0 : G a0 = some (.lst ts0)) (nt : G t = none) :
    Rws av (upd (upd G t (.tup (ns.map V.int))) a0 (.lst (ts0 ++ [.ref t]))) ds (fun r => if r = r0 then f r ++ [ns] else f r) (m + 1) := fun r a e => by
  have m0 : a0 ∈ av := sub a0 (List.mem_of_getElem? e0)
  obtain ⟨ts, h1, h2, h3⟩ := h r a e
  have h2' : Dts av (upd (upd G t (.tup (ns.map V.int))) a0 (.lst (ts0 ++ [.ref t]))) ts ((f r).map tupI) := (h2.keep (Keep.new nt)).keep (Keep.put m0)
  by_cases c : r = r0
  · subst c
    rw [e] at e0; cases e0
    rw [h1] at g0; cases g0
    refine ⟨ts0 ++ [.ref t], upd_same, ?_, by rw [List.length_append, List.length_singleton]; omega⟩
    show Dts _ _ _ (List.map tupI (if r = r then f r ++ [ns] else f r))
    rw [if_pos rfl, List.map_append]
    have nta : t ≠ a0 := (ne_of_none h1 nt).symm
    exact Dts.app h2' (.cons (.tup (tr.not nt) (by rw [upd_ne nta]; exact upd_same) (Dts.ints ns)) .nil)
  · have ne : a ≠ a0 := fun z => by subst z; exact c (nodup_at nd e e0)
    refine ⟨ts, by rw [upd_ne ne, upd_ne (ne_of_none h1 nt)]; exact h1, ?_, by omega⟩
    show Dts _ _ _ (List.map tupI (if r = r0 then f r ++ [ns] else f r))
    rw [if_neg c]; exact h2'
section
variable {P : Program} {w : World} {K : PySem.W.Frag} {mg : Str → Option Value} {base : Heap}
abbrev sDoors : Stmt := topS 2
abbrev nDoors : List Str := ["house", "rooms", "pipes", "room", "doors", "number", "pipe", "one", "other", "length"]
theorem scDoors : FnScope nDoors ["house"] (defScope sDoors) := ⟨rfl, rfl, rfl, by decide +kernel, rfl, by decide +kernel, by decide +kernel⟩
def spDoors : Sp := fun vs H Q _ => ∃ (h : V) (n : Int) (ps : List Pi) (av : List Addr), vs = [h] ∧ Dt av H h (houseD n (ps.map Pi.dat)) ∧ HouseOk n ps ∧ Tr av H ∧
  ∀ (H' : Hp) (Dl : Addr) (ds : List Addr), Keep [] H H' → H Dl = none → Dl ∉ av → (∀ a ∈ ds, a ∉ av) → Tr av H' → H' Dl = some (.lst (ds.map V.ref)) → (ds.length : Int) = n → Rws av H' ds (fun r => doorsTo ps (r : Int) ps.length) 100 → Q (.ref Dl) H'
theorem ok_doors (h : Has K mg "doors_of" sDoors) (B : Blt mg) : Can P w K mg base "doors_of" ["house"] 1 spDoors := by
  obtain ⟨f, fd, F, g⟩ := h
  refine ⟨f, fd, F.ok (k := 0) scDoors (fun vs H Q E h => ?_) (fun cdv A outer s H vs Q E hr h => ?_), g, F.kp, F.binds fun _ _ _ _ _ _ us hl => match us, hl with | [_], _ => rfl⟩
  · obtain ⟨h, n, ps, av, rfl, _⟩ := h
    rfl
  · obtain ⟨h, n, ps, av, rfl, hh, hk, tr, q⟩ := h
    have n1 := hk.n1
    have n2 := hk.n2
    have ln := hk.len
    refine ⟨_, pss_cons (ps_asg (pv 0) (pg_tup (by rfl) (pgs_cons (pg_name (i := 1) scDoors.nd rfl (by first | exact Or.inl rfl | exact Or.inr rfl)) (pgs_cons (pg_name (i := 2) scDoors.nd rfl (by first | exact Or.inl rfl | exact Or.inr rfl)) pgs_nil))))
      (pss_cons (ps_setLc (i := 4) (own := [("room", 3)]) (g := gName 3) (tt := tYes) rfl scDoors.nd rfl rfl (sw_true rfl rfl rfl (by decide +kernel)) (pi_range1 (by rfl) B.range_ (pa_cons (pv 1) pa_nil)) (blkOk_by (N := nDoors) (sc := defScope sDoors) (by decide +kernel)) (fun _ _ _ _ _ => (pg_name (i := 3) scDoors.nd rfl (by first | exact Or.inl rfl | exact Or.inr rfl))) (fun _ _ _ _ _ => pts_nil) (fun _ _ _ _ _ => (pe_lst pa_nil)))
      (pss_cons (ps_for PassesOwn.never rfl (pi_enumT (by rfl) B.enum_ (pa_cons (pv 2) pa_nil)) (pg_tup (by rfl) (pgs_cons (pg_name (i := 5) scDoors.nd rfl (by first | exact Or.inl rfl | exact Or.inr rfl)) (pgs_cons (pg_name (i := 6) scDoors.nd rfl (by first | exact Or.inl rfl | exact Or.inr rfl)) pgs_nil)))
      (pss_cons (ps_asg (pe_slice sl_tup (pv 6) po_none (po_some pe_int)) (pg_tup (by rfl) (pgs_cons (pg_name (i := 7) scDoors.nd rfl (by first | exact Or.inl rfl | exact Or.inr rfl)) (pgs_cons (pg_name (i := 8) scDoors.nd rfl (by first | exact Or.inl rfl | exact Or.inr rfl)) (pgs_cons (pg_name (i := 9) scDoors.nd rfl (by first | exact Or.inl rfl | exact Or.inr rfl)) pgs_nil)))))
      (pss_cons (ps_expr (pe_bm PySem.F.plainAttrs_list PySem.F.slot_list_append PySem.F.type_list_append mt_append (pe_ix ix_list (pv 4) (pv 7) (fun _ _ => rfl)) (pa_cons (pe_tup (pa_cons (pv 5) (pa_cons pe_int (pa_cons (pv 8) (pa_cons (pv 9) pa_nil))))) pa_nil)))
      (pss_one (ps_expr (pe_bm PySem.F.plainAttrs_list PySem.F.slot_list_append PySem.F.type_list_append mt_append (pe_ix ix_list (pv 4) (pv 8) (fun _ _ => rfl)) (pa_cons (pe_tup (pa_cons (pv 5) (pa_cons (pv 9) (pa_cons (pv 7) (pa_cons pe_int pa_nil))))) pa_nil)))))))
      (pss_one (ps_ret (pv 4))))), ?_⟩
    obtain ⟨ah, ap, xp, rfl, na, ea, nb, eb, db⟩ := house_parts hh
    refine ⟨.ref ah, rfl, ah, [.int n, .ref ap], rfl, SqT.of ea, rfl, _, _, rfl, _, [], rfl, rfl, ?_⟩
    -- a list of empty lists
    refine ⟨.int n, rfl, n, rfl, by omega, by omega, fun Dl nD => ?_⟩
    refine lc_range (lo := 0) (n := n.toNat) (fun i J => Keep [] H J ∧ ∃ ds : List Addr, ds.length = i ∧ ds.Nodup ∧ (∀ a ∈ ds, H a = none ∧ J a = some (.lst [])) ∧ Dl ∉ ds ∧ J Dl = some (.lst (ds.map V.ref)))
      ⟨Keep.new nD, [], rfl, List.nodup_nil, fun _ z => absurd z List.not_mem_nil, List.not_mem_nil, upd_same⟩ (fun i J hi p => ?_) (fun J p => ?_)
    · obtain ⟨k1, ds, l1, nd, al, nl, eD⟩ := p
      refine ⟨rfl, show 0 ≤ sizeLine by decide, fun p np => ⟨ds.map V.ref, ?_, ?_, ?_, ds ++ [p], ?_, ?_, ?_, ?_, ?_⟩⟩
      · rw [upd_ne (ne_of_none eD np)]; exact eD
      · rw [List.length_map, l1]; exact small1000 (by omega)
      · exact (k1.trans (Keep.new np)).upd nD
      · rw [List.length_append, l1]; rfl
      · refine List.nodup_append.mpr ⟨nd, by simp, fun a ha b hb e => ?_⟩
        rw [List.mem_singleton.mp hb] at e
        rw [e] at ha
        rw [(al p ha).2] at np; cases np
      · intro a ha
        have npD : p ≠ Dl := (ne_of_none eD np).symm
        rcases List.mem_append.mp ha with ha | ha
        · have e := al a ha
          have na' : a ≠ Dl := fun z => nl (z ▸ ha)
          exact ⟨e.1, by rw [upd_ne na', upd_ne (ne_of_none e.2 np)]; exact e.2⟩
        · rw [List.mem_singleton.mp ha]
          exact ⟨k1.fr np, by rw [upd_ne npD]; exact upd_same⟩
      · intro m
        rcases List.mem_append.mp m with m | m
        · exact nl m
        · exact (ne_of_none eD np) (List.mem_singleton.mp m)
      · rw [upd_same, List.map_append]; rfl
    · obtain ⟨k1, ds, l1, nd, al, nl, eD⟩ := p
      have fD : H Dl = none := nD
      have trJ : Tr (Dl :: ds ++ av) J := fun a m => by
        rcases List.mem_append.mp m with m | m
        · rcases List.mem_cons.mp m with m | m
          · rw [m]; exact ⟨_, eD⟩
          · exact ⟨_, (al a m).2⟩
        · obtain ⟨o, e⟩ := tr a m
          exact ⟨o, k1 a o e List.not_mem_nil⟩
      have ebJ := k1 ap _ eb List.not_mem_nil
      refine ⟨.ref ap, rfl, ap, xp, rfl, SqT.of ebJ, for_it (walk_enumT (K := K) (a := ap) (xs := xp))
        (fun i σ G => ∃ s3 s5 s6 s7 s8 s9, σ = [some (.ref ah), some (.int n), some (.ref ap), s3, some (.ref Dl), s5, s6, s7, s8, s9] ∧ Keep [] H G ∧ Tr (Dl :: ds ++ av) G ∧ G Dl = some (.lst (ds.map V.ref)) ∧ Rws (Dl :: ds ++ av) G ds (fun r => doorsTo ps (r : Int) i) (2 * i))
        ⟨_, _, _, _, _, _, rfl, k1, trJ, eD, fun r a e => ⟨[], (al a (List.mem_of_getElem? e)).2, .nil, Nat.zero_le _⟩⟩ (fun i σ G _ p => ?_) (fun i x σ G G' hi p y => ?_) (fun σ G p => ?_)⟩
      · obtain ⟨_, _, _, _, _, _, _, kG, _⟩ := p
        exact SqT.of (kG ap _ eb List.not_mem_nil)
      · obtain ⟨s3, s5, s6, s7, s8, s9, rfl, kG, tG, eG, rG⟩ := p
        obtain ⟨T0, x1, y1, rfl, nT, rfl, hx1, hy1⟩ := y
        cases hx1
        have xl : xp.length = ps.length := by rw [db.len, List.length_map]
        have hi' : i < ps.length := by omega
        obtain ⟨pok, pg⟩ := hk.at hi'
        have dbG := db.keep (kG.of)
        obtain ⟨pp, pa, T1, T2, _, gp, ga, epa⟩ := pi_at dbG (i := (i : Int)) (by omega) (by omega)
        have epp : pp = pr ps (i : Int) := by
          rw [show ((i : Int)).toNat = i by omega, pg] at gp
          exact (Option.some.inj gp).symm
        subst epp
        have ey1 : y1 = .ref pa := by
          have w : atI xp (i : Int) = some y1 := atI_nat hy1
          rw [w] at ga; exact Option.some.inj ga
        subst ey1
        obtain ⟨X, hX⟩ : ∃ X, (pr ps (i : Int)).x = X := ⟨_, rfl⟩
        obtain ⟨Y, hY⟩ : ∃ X, (pr ps (i : Int)).y = X := ⟨_, rfl⟩
        obtain ⟨L, hL⟩ : ∃ X, (pr ps (i : Int)).l = X := ⟨_, rfl⟩
        have p1 := pok.x0; have p2 := pok.x1; have p3 := pok.y0; have p4 := pok.y1; have p5 := pok.xy
        rw [hX] at p1 p2 p5; rw [hY] at p3 p4 p5
        rw [hX, hY, hL] at epa
        refine ⟨T0, [.int (i : Nat), .ref pa], rfl, SqT.of upd_same, rfl, _, _, rfl, _, [], rfl, rfl, ?_⟩
        have npa : pa ≠ T0 := ne_of_none epa nT
        refine ⟨.ref pa, rfl, 3, rfl, pa, [.int X, .int Y, .int L, .ref T1, .ref T2], rfl, SqT.of (show (upd G T0 _) pa = _ by rw [upd_ne npa]; exact epa), show ¬ (HT.sIx 5 0 none = 0 ∧ HT.sIx 5 5 (some 3) = 5) by decide +kernel, fun T3 nT3 => ?_⟩
        refine ⟨T3, [.int X, .int Y, .int L], rfl, SqT.of (upd_same.trans (congrArg some (congrArg HO.tup (cut_to _ 3)))), rfl, _, _, rfl, _, _, rfl, _, [], rfl, rfl, ?_⟩
        rw [show cutV [V.int X, .int Y, .int L, .ref T1, .ref T2] none (some 3) = [.int X, .int Y, .int L] from cut_to _ 3]
        have kJ : Keep [] H (upd (upd G T0 (.tup [.int (i : Nat), .ref pa])) T3 (.tup [.int X, .int Y, .int L])) := kG.trans ((Keep.new nT).trans (Keep.new nT3))
        have tJ : Tr (Dl :: ds ++ av) (upd (upd G T0 (.tup [.int (i : Nat), .ref pa])) T3 (.tup [.int X, .int Y, .int L])) := (tG.upd).upd
        have eJ : (upd (upd G T0 (.tup [.int (i : Nat), .ref pa])) T3 (.tup [.int X, .int Y, .int L])) Dl = some (.lst (ds.map V.ref)) := Keep.new (av := []) nT3 _ _ (Keep.new (av := []) nT _ _ eG List.not_mem_nil) List.not_mem_nil
        have rJ := (rG.new (o := .tup [.int (i : Nat), .ref pa]) nT).new (o := .tup [.int X, .int Y, .int L]) nT3
        generalize upd (upd G T0 (.tup [.int (i : Nat), .ref pa])) T3 (.tup [.int X, .int Y, .int L]) = J2 at kJ tJ eJ rJ ⊢
        have dl : ds.length = n.toNat := l1
        obtain ⟨a, ga⟩ : ∃ a, ds[X.toNat]? = some a := ⟨_, List.getElem?_eq_getElem (by omega)⟩
        obtain ⟨b, gb⟩ : ∃ b, ds[Y.toNat]? = some b := ⟨_, List.getElem?_eq_getElem (by omega)⟩
        obtain ⟨ts, e1, e2, e3⟩ := rJ X.toNat a ga
        have sub : ∀ z ∈ ds, z ∈ Dl :: ds ++ av := fun z m => List.mem_append_left _ (List.mem_cons_of_mem _ m)
        have aD : a ≠ Dl := fun z => nl (z ▸ List.mem_of_getElem? ga)
        have bD : b ≠ Dl := fun z => nl (z ▸ List.mem_of_getElem? gb)
        refine ⟨.ref Dl, rfl, .int X, rfl, Dl, _, X, .ref a, rfl, rfl, SqL.of eJ, atI_of p1 (by rw [List.getElem?_map, ga]; rfl), .inl ⟨rfl, _, SqL.of e1⟩, .int (i : Nat), rfl, .int Y, rfl, .int L, rfl, show 4 ≤ sizeLine by decide, fun t nt => ?_⟩
        have at1 : (upd J2 t (.tup [.int (i : Nat), .int 0, .int Y, .int L])) a = some (.lst ts) := by rw [upd_ne (ne_of_none e1 nt)]; exact e1
        refine ⟨a, ts, .ref t, rfl, rfl, at1, Nat.lt_of_le_of_lt e3 (small1000 (by omega)), ?_⟩
        have rK := rJ.put sub nd tJ (ns := [(i : Int), 0, Y, L]) ga e1 nt
        have ha : H a = none := (al a (List.mem_of_getElem? ga)).1
        have hb : H b = none := (al b (List.mem_of_getElem? gb)).1
        have kK : Keep [] H (upd (upd J2 t (.tup [.int (i : Nat), .int 0, .int Y, .int L])) a (.lst (ts ++ [.ref t]))) := (kJ.trans (Keep.new nt)).upd ha
        have tK : Tr (Dl :: ds ++ av) (upd (upd J2 t (.tup [.int (i : Nat), .int 0, .int Y, .int L])) a (.lst (ts ++ [.ref t]))) := (tJ.upd).upd
        have eK : (upd (upd J2 t (.tup [.int (i : Nat), .int 0, .int Y, .int L])) a (.lst (ts ++ [.ref t]))) Dl = some (.lst (ds.map V.ref)) := by
          rw [upd_ne aD.symm, upd_ne (ne_of_none eJ nt)]; exact eJ
        have rK' : Rws (Dl :: ds ++ av) (upd (upd J2 t (.tup [.int (i : Nat), .int 0, .int Y, .int L])) a (.lst (ts ++ [.ref t]))) ds (fun r => if r = X.toNat then doorsTo ps (r : Int) i ++ [[(i : Int), 0, Y, L]] else doorsTo ps (r : Int) i) (2 * i + 1) := rK
        generalize upd (upd J2 t (.tup [.int (i : Nat), .int 0, .int Y, .int L])) a (.lst (ts ++ [.ref t])) = J3 at kK tK eK rK' ⊢
        obtain ⟨us, f1, f2, f3⟩ := rK' Y.toNat b gb
        refine ⟨.ref Dl, rfl, .int Y, rfl, Dl, _, Y, .ref b, rfl, rfl, SqL.of eK, atI_of p3 (by rw [List.getElem?_map, gb]; rfl), .inl ⟨rfl, _, SqL.of f1⟩, .int (i : Nat), rfl, .int L, rfl, .int X, rfl, show 4 ≤ sizeLine by decide, fun u nu => ?_⟩
        have at2 : (upd J3 u (.tup [.int (i : Nat), .int L, .int X, .int 0])) b = some (.lst us) := by rw [upd_ne (ne_of_none f1 nu)]; exact f1
        refine ⟨b, us, .ref u, rfl, rfl, at2, Nat.lt_of_le_of_lt f3 (small1000 (by omega)), ?_⟩
        have rM := rK'.put sub nd tK (ns := [(i : Int), L, X, 0]) gb f1 nu
        refine ⟨_, _, _, _, _, _, rfl, (kK.trans (Keep.new nu)).upd hb, (tK.upd).upd, ?_, fun r z gz => ?_⟩
        · rw [upd_ne bD.symm, upd_ne (ne_of_none eK nu)]; exact eK
        · obtain ⟨vs, v1, v2, v3⟩ := rM r z gz
          refine ⟨vs, v1, ?_, by omega⟩
          have er : (if r = Y.toNat then (if r = X.toNat then doorsTo ps (r : Int) i ++ [[(i : Int), 0, Y, L]] else doorsTo ps (r : Int) i) ++ [[(i : Int), L, X, 0]] else (if r = X.toNat then doorsTo ps (r : Int) i ++ [[(i : Int), 0, Y, L]] else doorsTo ps (r : Int) i)) = doorsTo ps (r : Int) (i + 1) := by
            rw [doorsTo_succ]
            unfold doorRow
            rw [hX, hY, hL]
            by_cases c1 : r = X.toNat
            · have c2 : ¬ r = Y.toNat := by omega
              rw [if_neg c2, if_pos c1, if_pos (show X = (r : Int) by omega), if_neg (show ¬ Y = (r : Int) by omega)]; simp
            · by_cases c2 : r = Y.toNat
              · rw [if_pos c2, if_neg c1, if_neg (show ¬ X = (r : Int) by omega), if_pos (show Y = (r : Int) by omega)]; simp
              · rw [if_neg c2, if_neg c1, if_neg (show ¬ X = (r : Int) by omega), if_neg (show ¬ Y = (r : Int) by omega)]; simp
          show Dts _ _ _ (List.map tupI (doorsTo ps (r : Int) (i + 1)))
          rw [← er]; exact v2
      · obtain ⟨s3, s5, s6, s7, s8, s9, rfl, kG, tG, eG, rG⟩ := p
        have xl : xp.length = ps.length := by rw [db.len, List.length_map]
        rw [xl] at rG
        have tv : Tr av G := fun a m => tG a (List.mem_append_right _ m)
        refine ⟨.ref Dl, rfl, q G Dl ds kG fD (tr.not fD) (fun a m => tr.not (al a m).1) tv eG (by omega) ?_⟩
        intro r a e
        obtain ⟨ts, h1, h2, h3⟩ := rG r a e
        exact ⟨ts, h1, h2.less fun z m => List.mem_append_right _ m, by omega⟩
end
end Rw

namespace Rw
open PySem PySem.Spec PyProof.Rows L2
/-! ### how far all rooms lie from one -/
theorem pigeon : ∀ (n : Nat) (F : List Int), F.Nodup → (∀ t ∈ F, 0 ≤ t ∧ t < n) → F.length ≤ n
  | 0, [], _, _ => Nat.le_refl _
  | 0, t :: _, _, h => by have := h t List.mem_cons_self; omega
  | n + 1, F, nd, h => by
    by_cases m : (n : Int) ∈ F
    · have e := List.length_erase_of_mem m
      have := pigeon n (F.erase (n : Int)) (nd.erase _) (fun t ht => by
        have z := (nd.mem_erase_iff).mp ht
        have := h t z.2
        have := z.1
        omega)
      omega
    · have := pigeon n F nd (fun t ht => by
        have := h t ht
        have : t ≠ n := fun z => m (z ▸ ht)
        omega)
      omega
theorem mem_doors {ps : List Pi} {u : Int} {m : Nat} {row : List Int} : row ∈ doorsTo ps u m ↔ ∃ j : Nat, j < m ∧ (((pr ps (j : Int)).x = u ∧ row = [(j : Int), 0, (pr ps (j : Int)).y, (pr ps (j : Int)).l]) ∨ ((pr ps (j : Int)).y = u ∧ row = [(j : Int), (pr ps (j : Int)).l, (pr ps (j : Int)).x, 0])) := by
  unfold doorsTo
  rw [List.mem_flatMap]
  constructor
  · rintro ⟨j, hj, h⟩
    refine ⟨j, List.mem_range.mp hj, ?_⟩
    unfold doorRow at h
    rcases List.mem_append.mp h with h | h
    · split at h
      · rename_i e; exact .inl ⟨e, List.mem_singleton.mp h⟩
      · cases h
    · split at h
      · rename_i e; exact .inr ⟨e, List.mem_singleton.mp h⟩
      · cases h
  · rintro ⟨j, hj, h⟩
    refine ⟨j, List.mem_range.mpr hj, ?_⟩
    unfold doorRow
    rcases h with ⟨e, h⟩ | ⟨e, h⟩
    · rw [if_pos e, h]; exact List.mem_append_left _ List.mem_cons_self
    · rw [if_pos e, h]; exact List.mem_append_right _ List.mem_cons_self
/-! a row as towards has it: of a room, the door that leads nearer to r -/
def TowRow (ps : List Pi) (d : Int → Int → Int) (r t : Int) (row : List Int) : Prop :=
  ∃ (i : Nat) (p : Pi), ps[i]? = some p ∧ ((row = [(i : Int), 0, p.y, p.l] ∧ p.x = t ∧ d r p.y + p.l = d r t) ∨ (row = [(i : Int), p.l, p.x, 0] ∧ p.y = t ∧ d r p.x + p.l = d r t))
def TowE (av : List Addr) (G : Hp) (kw : List (Key × V)) (F : List Int) (ps : List Pi) (d : Int → Int → Int) (r : Int) : Prop :=
  ∀ t ∈ F, t ≠ r → ∃ (T : Addr) (row : List Int), valV kw (Sum.inl t) = some (.ref T) ∧ T ∉ av ∧ G T = some (.tup (row.map V.int)) ∧ TowRow ps d r t row
theorem TowE.keep {av : List Addr} {G G' : Hp} {kw : List (Key × V)} {F : List Int} {ps : List Pi} {d : Int → Int → Int} {r : Int} (h : TowE av G kw F ps d r) (k : ∀ b xs, G b = some (.tup xs) → G' b = some (.tup xs)) : TowE av G' kw F ps d r := fun t ht nt => by
  obtain ⟨T, row, h1, h2, h3, h4⟩ := h t ht nt
  exact ⟨T, row, h1, h2, k T _ h3, h4⟩
theorem keepTup {G : Hp} {b : Addr} {o u : HO} (e : G b = some o) (ho : ∀ xs, o ≠ .tup xs) : ∀ c xs, G c = some (.tup xs) → (upd G b u) c = some (.tup xs) := fun c xs ec => by
  have : c ≠ b := fun z => by rw [z, e] at ec; exact ho xs (Option.some.inj ec)
  rw [upd_ne this]; exact ec
theorem keepTupN {G : Hp} {b : Addr} {u : HO} (e : G b = none) : ∀ c xs, G c = some (.tup xs) → (upd G b u) c = some (.tup xs) := fun c xs ec => by
  rw [upd_ne (ne_of_none ec e)]; exact ec
def GapsAt (H : Hp) (g : Addr) (n : Int) (d : Int → Int → Int) (r : Int) : Prop := ∃ kvs, H g = some (.dK kvs) ∧ ∀ t, 0 ≤ t → t < n → valV kvs (Sum.inl t) = some (.int (d r t))
def TowAt (av : List Addr) (H : Hp) (w : Addr) (n : Int) (ps : List Pi) (d : Int → Int → Int) (r : Int) : Prop := ∃ kvs, H w = some (.dK kvs) ∧ TowE av H kvs (start n.toNat) ps d r
/-! what was found so far, what waits, but for here what was gone through is closed -/
structure SS (n : Int) (ps : List Pi) (d : Int → Int → Int) (r : Int) (F td ex : List Int) : Prop where
  nd : F.Nodup
  rg : ∀ t ∈ F, 0 ≤ t ∧ t < n
  src : r ∈ F
  sub : ∀ t ∈ td, t ∈ F
  few : td.length ≤ F.length
  par : Pard r (d r) (RE ps) F
  cl : ∀ u ∈ F, u ∉ td → u ∉ ex → ∀ v w, RE ps u v w → v ∈ F
theorem SS.first {n : Int} {ps : List Pi} {d : Int → Int → Int} {r : Int} (r0 : 0 ≤ r) (r1 : r < n) : SS n ps d r [r] [r] [] where
  nd := by simp
  rg := fun t ht => by rw [List.mem_singleton.mp ht]; exact ⟨r0, r1⟩
  src := List.mem_cons_self
  sub := fun t ht => ht
  few := Nat.le_refl _
  par := fun v hv nv => absurd (List.mem_singleton.mp hv) nv
  cl := fun u hu nu => absurd hu nu
theorem SS.pop {n : Int} {ps : List Pi} {d : Int → Int → Int} {r h : Int} {F td : List Int} (S : SS n ps d r F (td ++ [h]) []) : SS n ps d r F td [h] where
  nd := S.nd
  rg := S.rg
  src := S.src
  sub := fun t ht => S.sub t (List.mem_append_left _ ht)
  few := by have := S.few; rw [List.length_append] at this; omega
  par := S.par
  cl := fun u hu n1 n2 => S.cl u hu (fun m => (List.mem_append.mp m).elim n1 n2) List.not_mem_nil
theorem SS.add {n : Int} {ps : List Pi} {d : Int → Int → Int} {r h v w : Int} {F td : List Int} (T : Tm n ps d) (S : SS n ps d r F td [h]) (hh : h ∈ F) (nv : v ∉ F) (e : RE ps h v w) : SS n ps d r (F ++ [v]) (td ++ [v]) [h] ∧ d r v = d r h + w := by
  have rr := S.rg r S.src
  have R := T.rooms rr.1 rr.2
  have dv := R.found S.par hh (S.rg h hh) e nv
  refine ⟨⟨?_, ?_, List.mem_append_left _ S.src, ?_, by have := S.few; rw [List.length_append, List.length_append]; exact Nat.add_le_add_right this _, S.par.snoc hh (R.sym _ _ _ e) dv, ?_⟩, dv⟩
  · refine List.nodup_append.mpr ⟨S.nd, by simp, fun a ha b hb z => ?_⟩
    rw [List.mem_singleton.mp hb] at z
    exact nv (z ▸ ha)
  · intro t ht
    rcases List.mem_append.mp ht with m | m
    · exact S.rg t m
    · rw [List.mem_singleton.mp m]; exact R.cl _ _ _ (S.rg h hh) e
  · intro t ht
    rcases List.mem_append.mp ht with m | m
    · exact List.mem_append_left _ (S.sub t m)
    · exact List.mem_append_right _ m
  · intro u hu n1 n2 x y ex
    rcases List.mem_append.mp hu with m | m
    · exact List.mem_append_left _ (S.cl u m (fun z => n1 (List.mem_append_left _ z)) n2 x y ex)
    · exact absurd (List.mem_append_right _ m) n1
theorem SS.done {n : Int} {ps : List Pi} {d : Int → Int → Int} {r h : Int} {F td : List Int} (S : SS n ps d r F td [h]) (hc : ∀ v w, RE ps h v w → v ∈ F) : SS n ps d r F td [] where
  nd := S.nd
  rg := S.rg
  src := S.src
  sub := S.sub
  few := S.few
  par := S.par
  cl := fun u hu n1 _ v w e => by
    by_cases z : u = h
    · rw [z] at e; exact hc v w e
    · exact S.cl u hu n1 (fun m => z (List.mem_singleton.mp m)) v w e
theorem SS.all {n : Int} {ps : List Pi} {d : Int → Int → Int} {r : Int} {F : List Int} (T : Tm n ps d) (S : SS n ps d r F [] []) {t : Int} (t0 : 0 ≤ t) (t1 : t < n) : t ∈ F := by
  have rr := S.rg r S.src
  exact (T.rooms rr.1 rr.2).all S.src (fun u hu v w e => S.cl u hu List.not_mem_nil List.not_mem_nil v w e) _ t ⟨t0, t1⟩ (Nat.lt_succ_self _)
/-! the dicts: gaps has just what was found -/
def GapE (kg : List (Key × V)) (F : List Int) (d : Int → Int → Int) (r : Int) : Prop := kg.length = F.length ∧ (∀ t ∈ F, valV kg (Sum.inl t) = some (.int (d r t))) ∧ ∀ t, t ∉ F → valV kg (Sum.inl t) = none
theorem GapE.put {kg : List (Key × V)} {F : List Int} {d : Int → Int → Int} {r v : Int} (h : GapE kg F d r) (nv : v ∉ F) : GapE (putK kg (Sum.inl v) (.int (d r v))) (F ++ [v]) d r := by
  obtain ⟨h1, h2, h3⟩ := h
  refine ⟨?_, fun t ht => ?_, fun t ht => ?_⟩
  · rw [putK_new _ (h3 v nv), List.length_append, List.length_append, h1]; rfl
  · rw [valV_put]
    by_cases e : t = v
    · rw [e, if_pos rfl]
    · rw [if_neg (fun z => e (Sum.inl.inj z))]
      rcases List.mem_append.mp ht with m | m
      · exact h2 t m
      · exact absurd (List.mem_singleton.mp m) e
  · rw [valV_put, if_neg (fun z => ht (by rw [Sum.inl.inj z]; exact List.mem_append_right _ List.mem_cons_self))]
    exact h3 t (fun z => ht (List.mem_append_left _ z))
theorem Dts.unints {av : List Addr} {H : Hp} : ∀ {xs : List V} {ns : List Int}, Dts av H xs (ns.map PyData.int) → xs = ns.map V.int
  | _, [], h => by cases h; rfl
  | _, n :: ns, h => by
    cases h with
    | cons h1 h2 => cases h1; rw [Dts.unints h2]; rfl
theorem tupI_at {av : List Addr} {H : Hp} {v : V} {ns : List Int} (h : Dt av H v (tupI ns)) : ∃ a, v = .ref a ∧ a ∉ av ∧ H a = some (.tup (ns.map V.int)) := by
  unfold tupI at h
  cases h with
  | tup n e d => rw [d.unints] at e; exact ⟨_, rfl, n, e⟩
section
variable {P : Program} {w : World} {K : PySem.W.Frag} {mg : Str → Option Value} {base : Heap}
abbrev sSpread : Stmt := topS 3
abbrev nSpread : List Str := ["doors", "room", "gaps", "towards", "todo", "here", "pipe", "at", "beyond", "far"]
theorem scSpread : FnScope nSpread ["doors", "room"] (defScope sSpread) := ⟨rfl, rfl, rfl, by decide +kernel, rfl, by decide +kernel, by decide +kernel⟩
def spSpread : Sp := fun vs H Q _ => ∃ (Dl : Addr) (ds : List Addr) (n r : Int) (ps : List Pi) (d : Int → Int → Int) (av : List Addr), vs = [.ref Dl, .int r] ∧ H Dl = some (.lst (ds.map V.ref)) ∧ (ds.length : Int) = n ∧
  Rws av H ds (fun r => doorsTo ps (r : Int) ps.length) 100 ∧ HouseOk n ps ∧ Tm n ps d ∧ 0 ≤ r ∧ r < n ∧ Tr av H ∧
  ∀ (H' : Hp) (t g w : Addr), Keep [] H H' → Tr av H' → t ∉ av → g ∉ av → w ∉ av → H' t = some (.tup [.ref g, .ref w]) → GapsAt H' g n d r → TowAt av H' w n ps d r → Q (.ref t) H'
theorem ok_spread (h : Has K mg "spread_from" sSpread) (B : Blt mg) : Can P w K mg base "spread_from" ["doors", "room"] 1 spSpread := by
  obtain ⟨f, fd, F, g⟩ := h
  refine ⟨f, fd, F.ok (k := 0) scSpread (fun vs H Q E h => ?_) (fun cdv A outer s H vs Q E hr h => ?_), g, F.kp, F.binds fun _ _ _ _ _ _ us hl => match us, hl with | [_, _], _ => rfl⟩
  · obtain ⟨Dl, ds, n, r, ps, d, av, rfl, _⟩ := h
    rfl
  · obtain ⟨Dl, ds, n, r, ps, d, av, rfl, eD, dl, rw0, hk, T, r0, r1, tr, q⟩ := h
    have n2 := hk.n2
    refine ⟨_, pss_cons (ps_set (i := 2) scSpread.nd rfl (by first | exact Or.inl rfl | exact Or.inr rfl) (pe_disp (pps_cons (pv 1) pe_int pps_nil) (by rfl) (by rfl) (fun z => by cases z) (by decide)))
      (pss_cons (ps_set (i := 3) scSpread.nd rfl (by first | exact Or.inl rfl | exact Or.inr rfl) pe_dnewK)
      (pss_cons (ps_set (i := 4) scSpread.nd rfl (by first | exact Or.inl rfl | exact Or.inr rfl) (pe_lst (pa_cons (pv 1) pa_nil)))
      (pss_cons (ps_while PassesOwn.never (pt_truth (pv 4) (by intro _; rfl))
      (pss_cons (ps_set (i := 5) scSpread.nd rfl (by first | exact Or.inl rfl | exact Or.inr rfl) (pe_bm0 PySem.F.plainAttrs_list PySem.F.slot_list_pop PySem.F.type_list_pop mt_pop (pv 4)))
      (pss_one (ps_for PassesOwn.never rfl (pi_list (pe_ix ix_list (pv 0) (pv 5) (fun _ _ => rfl))) (pg_tup (by rfl) (pgs_cons (pg_name (i := 6) scSpread.nd rfl (by first | exact Or.inl rfl | exact Or.inr rfl)) (pgs_cons (pg_name (i := 7) scSpread.nd rfl (by first | exact Or.inl rfl | exact Or.inr rfl)) (pgs_cons (pg_name (i := 8) scSpread.nd rfl (by first | exact Or.inl rfl | exact Or.inr rfl)) (pgs_cons (pg_name (i := 9) scSpread.nd rfl (by first | exact Or.inl rfl | exact Or.inr rfl)) pgs_nil)))))
      (pss_one (ps_if (pt_cmp (pc_dnotin (hu_of hr) (pv 8) (pv 2))) (pss_cons (ps_dput (hu_of hr) (pv 2) (pv 8) (pe_op op_add (pe_dget (hu_of hr) (pv 2) (pv 5) (fun _ _ => rfl)) (pe_callB call_abs (by rfl) B.abs_ boot_abs (pa_cons (pe_op op_sub (pv 9) (pv 7)) pa_nil))) rfl)
      (pss_cons (ps_dput (hu_of hr) (pv 3) (pv 8) (pe_tup (pa_cons (pv 6) (pa_cons (pv 9) (pa_cons (pv 5) (pa_cons (pv 7) pa_nil))))) rfl)
      (pss_one (ps_expr (pe_bm PySem.F.plainAttrs_list PySem.F.slot_list_append PySem.F.type_list_append mt_append (pv 4) (pa_cons (pv 8) pa_nil)))))) pss_nil))))))
      (pss_one (ps_ret (pe_tup (pa_cons (pv 2) (pa_cons (pv 3) pa_nil)))))))), ?_⟩
    refine fun g ng => ⟨.int r, rfl, upd_same, [(Sum.inl r, .int 0)], rfl, by show 1 ≤ 15; decide, ?_⟩
    have eg0 : (upd (upd H g (.dK [])) g (.dK (mergeK [] [(Sum.inl r, V.int 0)]))) = upd H g (.dK [(Sum.inl r, V.int 0)]) := by rw [upd_upd]; rfl
    rw [eg0]
    refine fun w nw => ?_
    refine ⟨.int r, rfl, show 1 ≤ sizeLine by decide, fun td ntd => ?_⟩
    have ngw : g ≠ w := ne_of_none (upd_same (H := H) (a := g) (o := .dK [(Sum.inl r, V.int 0)])) nw
    have ew0 : (upd (upd H g (.dK [(Sum.inl r, V.int 0)])) w (.dK [])) w = some (.dK []) := upd_same
    have eg1 : (upd (upd H g (.dK [(Sum.inl r, V.int 0)])) w (.dK [])) g = some (.dK [(Sum.inl r, V.int 0)]) := by rw [upd_ne ngw]; exact upd_same
    have ngt : g ≠ td := ne_of_none eg1 ntd
    have nwt : w ≠ td := ne_of_none ew0 ntd
    have k0 : Keep [] H (upd (upd (upd H g (.dK [(Sum.inl r, V.int 0)])) w (.dK [])) td (.lst [.int r])) := (Keep.new ng).trans ((Keep.new nw).trans (Keep.new ntd))
    have fg : H g = none := ng
    have fw : H w = none := (Keep.new (av := []) ng).fr nw
    have ft : H td = none := ((Keep.new (av := []) ng).trans (Keep.new nw)).fr ntd
    refine ⟨fun m σ G => ∃ (F tds : List Int) (kg kw : List (Key × V)) (s5 s6 s7 s8 s9 : Option V), σ = [some (.ref Dl), some (.int r), some (.ref g), some (.ref w), some (.ref td), s5, s6, s7, s8, s9] ∧ Keep [] H G ∧ G g = some (.dK kg) ∧ G w = some (.dK kw) ∧ G td = some (.lst (tds.map V.int)) ∧
      SS n ps d r F tds [] ∧ GapE kg F d r ∧ TowE av G kw F ps d r ∧ kw.length ≤ F.length ∧ m = 2 * (16 - F.length) + tds.length, ⟨_, [r], [r], [(Sum.inl r, .int 0)], [], none, none, none, none, none, rfl, k0, ?_, ?_, upd_same, SS.first r0 r1, ⟨rfl, fun t ht => ?_, fun t ht => ?_⟩, fun t ht nt => absurd (List.mem_singleton.mp ht) nt, Nat.zero_le _, rfl⟩, fun m σ G p => ?_⟩
    · rw [upd_ne ngt]; exact eg1
    · rw [upd_ne nwt]; exact ew0
    · rw [List.mem_singleton.mp ht, T.zero]; exact valV_pos rfl
    · rw [valV_neg (fun z => ht (List.mem_singleton.mpr (Sum.inl.inj z).symm))]; rfl
    · obtain ⟨F, tds, kg, kw, s5, s6, s7, s8, s9, rfl, kG, eg, ew, et, S, ge, te, kl, rfl⟩ := p
      refine ⟨.ref td, rfl, _, .inl ⟨_, SqL.of et, rfl⟩, ?_⟩
      rcases List.eq_nil_or_concat tds with rfl | ⟨tl, hh, etl⟩
      · -- none waits
        rw [if_neg (show ¬ (!(([] : List Int).map V.int).isEmpty) = true by simp)]
        refine ⟨.ref g, rfl, .ref w, rfl, show 2 ≤ sizeLine by decide, fun t nt => ?_⟩
        have kN : Keep [] H (upd G t (.tup [.ref g, .ref w])) := kG.trans (Keep.new nt)
        refine q _ t g w kN (fun a m => ?_) (tr.not (kG.fr nt)) (tr.not fg) (tr.not fw) upd_same ⟨kg, ?_, fun u u0 u1 => ge.2.1 u (S.all T u0 u1)⟩ ⟨kw, ?_, fun u hu nu => ?_⟩
        · obtain ⟨o, e⟩ := tr a m
          exact ⟨o, kN a o e List.not_mem_nil⟩
        · rw [upd_ne (ne_of_none eg nt)]; exact eg
        · rw [upd_ne (ne_of_none ew nt)]; exact ew
        · have hu' := start_mem.mp hu
          exact te.keep (keepTupN nt) u (S.all T hu'.1 (by omega)) nu
      · rw [List.concat_eq_append] at etl
        subst etl
        rw [if_pos (show (!((tl ++ [hh]).map V.int).isEmpty) = true by simp)]
        have hF : hh ∈ F := S.sub hh (List.mem_append_right _ List.mem_cons_self)
        have hhr := S.rg hh hF
        have Fl := pigeon 16 F S.nd (fun t ht => by have := S.rg t ht; omega)
        rw [List.map_append] at et
        refine ⟨fun σ' G' => ∃ m', m' < 2 * (16 - F.length) + (tl ++ [hh]).length ∧ ∃ (F tds : List Int) (kg kw : List (Key × V)) (s5 s6 s7 s8 s9 : Option V), σ' = [some (.ref Dl), some (.int r), some (.ref g), some (.ref w), some (.ref td), s5, s6, s7, s8, s9] ∧ Keep [] H G' ∧ G' g = some (.dK kg) ∧ G' w = some (.dK kw) ∧ G' td = some (.lst (tds.map V.int)) ∧
          SS n ps d r F tds [] ∧ GapE kg F d r ∧ TowE av G' kw F ps d r ∧ kw.length ≤ F.length ∧ m' = 2 * (16 - F.length) + tds.length, fun σ' G' h => h, ?_⟩
        refine ⟨.ref td, rfl, .inl ⟨rfl, _, SqL.of et⟩, td, _, .int hh, rfl, rfl, et, by simp, ?_⟩
        have edl : (tl.map V.int ++ [hh].map V.int).dropLast = tl.map V.int := by simp
        rw [edl]
        have kG2 : Keep [] H (upd G td (.lst (tl.map V.int))) := kG.upd ft
        have eg2 : (upd G td (.lst (tl.map V.int))) g = some (.dK kg) := by rw [upd_ne ngt]; exact eg
        have ew2 : (upd G td (.lst (tl.map V.int))) w = some (.dK kw) := by rw [upd_ne nwt]; exact ew
        have et2 : (upd G td (.lst (tl.map V.int))) td = some (.lst (tl.map V.int)) := upd_same
        have te2 := te.keep (keepTup (u := .lst (tl.map V.int)) et (fun xs z => by cases z))
        generalize upd G td (.lst (tl.map V.int)) = G2 at kG2 eg2 ew2 et2 te2 ⊢
        obtain ⟨a, ga⟩ : ∃ a, ds[hh.toNat]? = some a := ⟨_, List.getElem?_eq_getElem (by omega)⟩
        obtain ⟨ts, ea, da, la⟩ := rw0 hh.toNat a ga
        have eh : ((hh.toNat : Nat) : Int) = hh := by omega
        have da' : Dts av H ts ((doorsTo ps hh ps.length).map tupI) := by
          have z : Dts av H ts ((doorsTo ps ((hh.toNat : Nat) : Int) ps.length).map tupI) := da
          rw [eh] at z; exact z
        have S2 := S.pop
        refine ⟨.ref Dl, rfl, .int hh, rfl, Dl, _, hh, .ref a, rfl, rfl, SqL.of (kG2 Dl _ eD List.not_mem_nil), atI_of hhr.1 (by rw [List.getElem?_map, ga]; rfl), a, rfl, ⟨_, SqL.of (kG2 a _ ea List.not_mem_nil)⟩, ?_⟩
        refine for_list (K := K) (a := a) (xs := ts) (fun j σ J => ∃ (F' tds' : List Int) (kg kw : List (Key × V)) (s6 s7 s8 s9 : Option V), σ = [some (.ref Dl), some (.int r), some (.ref g), some (.ref w), some (.ref td), some (.int hh), s6, s7, s8, s9] ∧ Keep [] H J ∧ J g = some (.dK kg) ∧ J w = some (.dK kw) ∧ J td = some (.lst (tds'.map V.int)) ∧
          SS n ps d r F' tds' [hh] ∧ hh ∈ F' ∧ GapE kg F' d r ∧ TowE av J kw F' ps d r ∧ kw.length ≤ F'.length ∧ 2 * (16 - F'.length) + tds'.length ≤ 2 * (16 - F.length) + tl.length ∧ ∀ row ∈ (doorsTo ps hh ps.length).take j, row.getD 2 0 ∈ F')
          ⟨F, tl, kg, kw, _, _, _, _, rfl, kG2, eg2, ew2, et2, S2, hF, ge, te2, kl, Nat.le_refl _, fun row z => by simp at z⟩ (fun j σ J _ p => ?_) (fun j x σ J hx p => ?_) (fun σ J p => ?_)
        · obtain ⟨_, _, _, _, _, _, _, _, _, kJ, _⟩ := p
          exact SqL.of (kJ a _ ea List.not_mem_nil)
        · obtain ⟨F', tds', kg, kw, s6, s7, s8, s9, rfl, kJ, eg, ew, et, SJ, hF', ge, te, kl, ms, al⟩ := p
          obtain ⟨dd, gd, dx⟩ := (da'.keep kJ.of).getv j hx
          rw [List.getElem?_map] at gd
          obtain ⟨row, grow, rfl⟩ := Option.map_eq_some_iff.mp gd
          obtain ⟨i, il, hrow⟩ := mem_doors.mp (List.mem_of_getElem? grow)
          have pg := (hk.at il).2
          have pl := (hk.at il).1.fit.l1
          obtain ⟨ia, at', v, far, L, erow, hRE, habs, htow⟩ : ∃ ia at' v far L : Int, row = [ia, at', v, far] ∧ RE ps hh v L ∧ (if far - at' < 0 then -(far - at') else far - at') = L ∧ (d r v = d r hh + L → TowRow ps d r v [ia, far, hh, at']) := by
            rcases hrow with ⟨e, h⟩ | ⟨e, h⟩
            · exact ⟨_, _, _, _, _, h, ⟨i, _, pg, rfl, .inl ⟨e, rfl⟩⟩, by split <;> omega, fun z => ⟨i, _, pg, .inr ⟨by rw [e], rfl, by rw [e]; exact z.symm⟩⟩⟩
            · exact ⟨_, _, _, _, _, h, ⟨i, _, pg, rfl, .inr ⟨e, rfl⟩⟩, by split <;> omega, fun z => ⟨i, _, pg, .inl ⟨by rw [e], rfl, by rw [e]; exact z.symm⟩⟩⟩
          subst erow
          obtain ⟨Ta, rfl, nTa, eTa⟩ := tupI_at dx
          have tk : (doorsTo ps hh ps.length).take (j + 1) = (doorsTo ps hh ps.length).take j ++ [[ia, at', v, far]] := by rw [List.take_add_one, grow]; rfl
          refine ⟨Ta, [.int ia, .int at', .int v, .int far], rfl, SqT.of eTa, rfl, _, _, rfl, _, _, rfl, _, _, rfl, _, [], rfl, rfl, ?_⟩
          refine ⟨.int v, rfl, .ref g, rfl, g, _, rfl, DGet.k (k := Sum.inl v) eg, _, rfl, ?_⟩
          by_cases hv : v ∈ F'
          · rw [ge.2.1 v hv]
            refine iteF ?_
            refine ⟨F', tds', kg, kw, _, _, _, _, rfl, kJ, eg, ew, et, SJ, hF', ge, te, kl, ms, fun row hrow => ?_⟩
            rw [tk] at hrow
            rcases List.mem_append.mp hrow with m | m
            · exact al row m
            · rw [List.mem_singleton.mp m]; exact hv
          · rw [ge.2.2 v hv]
            refine iteT ?_
            obtain ⟨SN, dv⟩ := SJ.add T hF' hv hRE
            have Fl' := pigeon 16 (F' ++ [v]) SN.nd (fun t ht => by have := SN.rg t ht; omega)
            rw [List.length_append, List.length_singleton] at Fl'
            have kgl : kg.length < sizeLine := by rw [ge.1]; exact Nat.lt_of_lt_of_le (by omega : F'.length < 1000) (small1000 (by omega))
            refine ⟨.ref g, rfl, .int hh, rfl, g, .int (d r hh), rfl, by rw [← ge.2.1 hh hF']; exact DGet.k (k := Sum.inl hh) eg, .int far, rfl, .int at', rfl, far, at', rfl, rfl, far - at', rfl, d r hh, _, rfl, rfl, .ref g, rfl, .int v, rfl, g, _, rfl, (show DPut J g (.int v) (.int (d r hh + (if far - at' < 0 then -(far - at') else far - at'))) _ from DPut.k (k := Sum.inl v) eg kgl), ?_⟩
            rw [habs, ← dv]
            have ew1 : (upd J g (.dK (putK kg (Sum.inl v) (.int (d r v))))) w = some (.dK kw) := by rw [upd_ne ngw.symm]; exact ew
            have et1 : (upd J g (.dK (putK kg (Sum.inl v) (.int (d r v))))) td = some (.lst (tds'.map V.int)) := by rw [upd_ne ngt.symm]; exact et
            have eg1 : (upd J g (.dK (putK kg (Sum.inl v) (.int (d r v))))) g = some (.dK (putK kg (Sum.inl v) (.int (d r v)))) := upd_same
            have te1 := te.keep (keepTup (u := .dK (putK kg (Sum.inl v) (.int (d r v)))) eg (fun xs z => by cases z))
            have k1 : Keep [] H (upd J g (.dK (putK kg (Sum.inl v) (.int (d r v))))) := kJ.upd fg
            have ge1 := ge.put hv
            generalize upd J g (.dK (putK kg (Sum.inl v) (.int (d r v)))) = J1 at ew1 et1 eg1 te1 k1 ⊢
            refine ⟨.int ia, rfl, .int far, rfl, .int hh, rfl, .int at', rfl, show 4 ≤ sizeLine by decide, fun Tn nTn => ?_⟩
            have kwl : kw.length < sizeLine := Nat.lt_of_lt_of_le (by omega : kw.length < 1000) (small1000 (by omega))
            have ew2 : (upd J1 Tn (.tup [.int ia, .int far, .int hh, .int at'])) w = some (.dK kw) := by rw [upd_ne (ne_of_none ew1 nTn)]; exact ew1
            refine ⟨.ref w, rfl, .int v, rfl, w, _, rfl, DPut.k (k := Sum.inl v) ew2 kwl, ?_⟩
            have nTw : Tn ≠ w := (ne_of_none ew1 nTn).symm
            have et3 : (upd (upd J1 Tn (.tup [.int ia, .int far, .int hh, .int at'])) w (.dK (putK kw (Sum.inl v) (.ref Tn)))) td = some (.lst (tds'.map V.int)) := by rw [upd_ne nwt.symm, upd_ne (ne_of_none et1 nTn)]; exact et1
            have eg3 : (upd (upd J1 Tn (.tup [.int ia, .int far, .int hh, .int at'])) w (.dK (putK kw (Sum.inl v) (.ref Tn)))) g = some (.dK (putK kg (Sum.inl v) (.int (d r v)))) := by rw [upd_ne ngw, upd_ne (ne_of_none eg1 nTn)]; exact eg1
            have ew3 : (upd (upd J1 Tn (.tup [.int ia, .int far, .int hh, .int at'])) w (.dK (putK kw (Sum.inl v) (.ref Tn)))) w = some (.dK (putK kw (Sum.inl v) (.ref Tn))) := upd_same
            have eT3 : (upd (upd J1 Tn (.tup [.int ia, .int far, .int hh, .int at'])) w (.dK (putK kw (Sum.inl v) (.ref Tn)))) Tn = some (.tup ([ia, far, hh, at'].map V.int)) := by rw [upd_ne nTw]; exact upd_same
            have te3 := (te1.keep (keepTupN (u := .tup [.int ia, .int far, .int hh, .int at']) nTn)).keep (keepTup (u := .dK (putK kw (Sum.inl v) (.ref Tn))) ew2 (fun xs z => by cases z))
            have k3 : Keep [] H (upd (upd J1 Tn (.tup [.int ia, .int far, .int hh, .int at'])) w (.dK (putK kw (Sum.inl v) (.ref Tn)))) := (k1.trans (Keep.new nTn)).upd fw
            have nTav : Tn ∉ av := tr.not (k1.fr nTn)
            generalize upd (upd J1 Tn (.tup [.int ia, .int far, .int hh, .int at'])) w (.dK (putK kw (Sum.inl v) (.ref Tn))) = J3 at et3 eg3 ew3 eT3 te3 k3 ⊢
            have tdl : tds'.length ≤ 100 := by have := SJ.few; omega
            refine ⟨.ref td, rfl, .inl ⟨rfl, _, SqL.of et3⟩, .int v, rfl, td, _, _, rfl, rfl, et3, by rw [List.length_map]; exact Nat.lt_of_lt_of_le (by omega : tds'.length < 1000) (small1000 (by omega)), ?_⟩
            refine ⟨F' ++ [v], tds' ++ [v], _, _, _, _, _, _, rfl, k3.upd ft, by rw [upd_ne ngt]; exact eg3, by rw [upd_ne nwt]; exact ew3, by rw [upd_same, List.map_append]; rfl, SN, List.mem_append_left _ hF', ge1, fun t ht nt => ?_, ?_, ?_, fun row hrow => ?_⟩
            · by_cases ev : t = v
              · subst ev
                exact ⟨Tn, _, by rw [valV_put, if_pos rfl], nTav, keepTup (u := .lst (tds'.map V.int ++ [V.int t])) et3 (fun xs z => by cases z) _ _ eT3, htow dv⟩
              · rcases List.mem_append.mp ht with m | m
                · obtain ⟨T', row', h1, h2, h3, h4⟩ := te3.keep (keepTup (u := .lst (tds'.map V.int ++ [V.int v])) et3 (fun xs z => by cases z)) t m nt
                  exact ⟨T', row', by rw [valV_put, if_neg (fun z => ev (Sum.inl.inj z))]; exact h1, h2, h3, h4⟩
                · exact absurd (List.mem_singleton.mp m) ev
            · have := DSub.putK_len kw (Sum.inl v) (V.ref Tn)
              rw [List.length_append, List.length_singleton]; omega
            · rw [List.length_append, List.length_append, List.length_singleton]
              omega
            · rw [tk] at hrow
              rcases List.mem_append.mp hrow with m | m
              · exact List.mem_append_left _ (al row m)
              · rw [List.mem_singleton.mp m]; exact List.mem_append_right _ List.mem_cons_self
        · obtain ⟨F', tds', kg', kw', s6', s7', s8', s9', rfl, kJ, egJ, ewJ, etJ, SJ, hFJ, geJ, teJ, klJ, ms, al⟩ := p
          refine ⟨_, ?_, F', tds', kg', kw', _, _, _, _, _, rfl, kJ, egJ, ewJ, etJ, SJ.done (fun v w' e => ?_), geJ, teJ, klJ, rfl⟩
          · rw [List.length_append, List.length_singleton]; omega
          · obtain ⟨i, p, ei, hw, hp⟩ := e
            have il : i < ps.length := (List.getElem?_eq_some_iff.mp ei).1
            have ln : ts.length = (doorsTo ps hh ps.length).length := by rw [da'.len, List.length_map]
            rw [ln, List.take_length] at al
            rcases hp with ⟨h1, h2⟩ | ⟨h1, h2⟩
            · have := al _ (mem_doors.mpr ⟨i, il, .inl ⟨by rw [pr_of ei]; exact h1, rfl⟩⟩)
              rw [pr_of ei] at this
              rw [← h2]; exact this
            · have := al _ (mem_doors.mpr ⟨i, il, .inr ⟨by rw [pr_of ei]; exact h1, rfl⟩⟩)
              rw [pr_of ei] at this
              rw [← h2]; exact this
end
end Rw

namespace Rw
section
variable {n : Int} {ps : List Pi} {d : Int → Int → Int} (T : Tm n ps d)
include T
theorem rooms_row {s M : Int} (s0 : 0 ≤ s) (s1 : s < n) (hM : ∀ p ∈ ps, p.l ≤ M) (hM0 : 0 ≤ M) : ∀ (k : Nat) (t : Int), 0 ≤ t → t < n → (d s t).toNat < k → ∃ F : List Int, F.Nodup ∧ (∀ x ∈ F, 0 ≤ x ∧ x < n ∧ d s x ≤ d s t) ∧ d s t + M ≤ M * F.length
  | 0, t, _, _, e => absurd e (Nat.not_lt_zero _)
  | k + 1, t, t0, t1, e => by
    by_cases c : s = t
    · subst c
      refine ⟨[s], by simp, fun x hx => by rw [List.mem_singleton.mp hx]; exact ⟨s0, s1, Int.le_refl _⟩, ?_⟩
      rw [T.zero]
      show 0 + M ≤ M * ((1 : Nat) : Int)
      omega
    · obtain ⟨i, p, gp, h⟩ := T.par s t s0 s1 t0 t1 c
      have mp := List.mem_of_getElem? gp
      obtain ⟨x0, x1, y0, y1, l1⟩ := T.ok p mp
      have lM := hM p mp
      obtain ⟨u, u0, u1, eu⟩ : ∃ u, 0 ≤ u ∧ u < n ∧ d s u + p.l = d s t := by
        rcases h with ⟨_, h⟩ | ⟨_, h⟩
        · exact ⟨p.y, y0, y1, h⟩
        · exact ⟨p.x, x0, x1, h⟩
      have nnu : 0 ≤ d s u := by
        by_cases z : s = u
        · subst z; rw [T.zero]; exact Int.le_refl 0
        · have := T.pos s u s0 s1 u0 u1 z; omega
      obtain ⟨F, f1, f2, f3⟩ := rooms_row s0 s1 hM hM0 k u u0 u1 (by omega)
      refine ⟨t :: F, List.nodup_cons.mpr ⟨fun m => ?_, f1⟩, fun x hx => ?_, ?_⟩
      · have := (f2 t m).2.2
        omega
      · rcases List.mem_cons.mp hx with rfl | m
        · exact ⟨t0, t1, Int.le_refl _⟩
        · obtain ⟨a, b, c'⟩ := f2 x m
          exact ⟨a, b, by omega⟩
      · rw [List.length_cons]
        have : M * ((F.length + 1 : Nat) : Int) = M * F.length + M := by
          rw [Int.natCast_add]; show M * ((F.length : Int) + 1) = _; rw [Int.mul_add, Int.mul_one]
        omega
theorem rooms_far {s t : Int} (hn : n ≤ 16) (hM : ∀ p ∈ ps, p.l ≤ 1000000000000) (s0 : 0 ≤ s) (s1 : s < n) (t0 : 0 ≤ t) (t1 : t < n) : d s t ≤ 15000000000000 := by
  obtain ⟨F, f1, f2, f3⟩ := rooms_row T s0 s1 hM (by omega) _ t t0 t1 (Nat.lt_succ_self _)
  have := pigeon 16 F f1 (fun x hx => by have := f2 x hx; omega)
  omega
theorem places_far {p q : Pl} (hn : n ≤ 16) (hM : ∀ p ∈ ps, p.l ≤ 1000000000000) (hp : okP n ps p) (hq : okP n ps q) : Dp ps d p q ≤ 17000000000000 := by
  have room : ∀ z, okP n ps z → ∃ r, 0 ≤ r ∧ r < n ∧ Dp ps d z [r] ≤ 1000000000000 := fun z hz => by
    rcases ok_cases hz with ⟨r, rfl, r0, r1⟩ | ⟨i, a, rfl, h0, h1, a0, a1⟩
    · exact ⟨r, r0, r1, by rw [Dp_self T hz]; omega⟩
    · have l1 := hM _ (pr_mem h0 h1).1
      have z2 := Dp_same T h0 h1 a0 a1 (d := d) 0
      rw [nm_0] at z2
      obtain ⟨x0, x1, _⟩ := T.ok _ (pr_mem h0 h1).1
      refine ⟨(pr ps i).x, x0, x1, ?_⟩
      rw [z2]
      unfold ab
      split <;> omega
  obtain ⟨r, r0, r1, e1⟩ := room p hp
  obtain ⟨t, t0, t1, e2⟩ := room q hq
  have okr : okP n ps [r] := ⟨r0, r1⟩
  have okt : okP n ps [t] := ⟨t0, t1⟩
  have t1' := Dp_le T hp okr hq
  have t2' := Dp_le T okr okt hq
  have s1 := Dp_sym T hq okt
  have rf := rooms_far T hn hM r0 r1 t0 t1
  have rr : Dp ps d [r] [t] = d r t := rfl
  omega
end
end Rw

namespace Rw
open PySem PySem.Spec PyProof.Rows L2
/-! ### a house's plan -/
def pf1 (b : V) : List (Str × V) := [("built", b)]
def pf2 (b p : V) : List (Str × V) := [("built", b), ("pipes", p)]
def pf3 (b p e : V) : List (Str × V) := [("built", b), ("pipes", p), ("doors", e)]
def pf4 (b p e g : V) : List (Str × V) := [("built", b), ("pipes", p), ("doors", e), ("gaps", g)]
def pf5 (b p e g t : V) : List (Str × V) := [("built", b), ("pipes", p), ("doors", e), ("gaps", g), ("towards", t)]
theorem putF_new {k : Str} {v : V} : ∀ fs : List (Str × V), (fs.all fun e => !decide (e.1 = k)) = true → putF k v fs = fs ++ [(k, v)]
  | [], _ => rfl
  | (x, y) :: r, h => by
    rw [List.all_cons, Bool.and_eq_true] at h
    have n : ¬ x = k := by
      intro z
      rw [decide_eq_true z] at h
      cases h.1
    show (if x = k then _ else (x, y) :: putF k v r) = _
    rw [if_neg n, putF_new r h.2]; rfl
theorem pf_2 (b p : V) : putF "pipes" p (pf1 b) = pf2 b p := putF_new (k := "pipes") (pf1 b) (by show (!decide (("built" : Str) = "pipes") && true) = true; decide +kernel)
theorem pf_3 (b p e : V) : putF "doors" e (pf2 b p) = pf3 b p e := putF_new (k := "doors") (pf2 b p) (by show (!decide (("built" : Str) = "doors") && (!decide (("pipes" : Str) = "doors") && true)) = true; decide +kernel)
theorem pf_4 (b p e g : V) : putF "gaps" g (pf3 b p e) = pf4 b p e g := putF_new (k := "gaps") (pf3 b p e) (by show (!decide (("built" : Str) = "gaps") && (!decide (("pipes" : Str) = "gaps") && (!decide (("doors" : Str) = "gaps") && true))) = true; decide +kernel)
theorem pf_5 (b p e g t : V) : putF "towards" t (pf4 b p e g) = pf5 b p e g t := putF_new (k := "towards") (pf4 b p e g) (by show (!decide (("built" : Str) = "towards") && (!decide (("pipes" : Str) = "towards") && (!decide (("doors" : Str) = "towards") && (!decide (("gaps" : Str) = "towards") && true)))) = true; decide +kernel)
theorem lk_no {k x : Str} {y : V} {r : List (Str × V)} (h : (k == x) = false) : ((x, y) :: r).lookup k = r.lookup k := by simp only [List.lookup, h]
theorem lk_yes {k : Str} {y : V} {r : List (Str × V)} : ((k, y) :: r).lookup k = some y := by simp [List.lookup]
theorem pf_built (b p e g t : V) : (pf5 b p e g t).lookup ("built" : Str) = some b := lk_yes
theorem pf_pipes (b p e g t : V) : (pf5 b p e g t).lookup ("pipes" : Str) = some p := ((lk_no (k := "pipes") (x := "built") (by decide +kernel)).trans lk_yes)
theorem pf_doors (b p e g t : V) : (pf5 b p e g t).lookup ("doors" : Str) = some e := ((lk_no (k := "doors") (x := "built") (by decide +kernel)).trans ((lk_no (k := "doors") (x := "pipes") (by decide +kernel)).trans lk_yes))
theorem pf_gaps (b p e g t : V) : (pf5 b p e g t).lookup ("gaps" : Str) = some g := ((lk_no (k := "gaps") (x := "built") (by decide +kernel)).trans ((lk_no (k := "gaps") (x := "pipes") (by decide +kernel)).trans ((lk_no (k := "gaps") (x := "doors") (by decide +kernel)).trans lk_yes)))
theorem pf_tow (b p e g t : V) : (pf5 b p e g t).lookup ("towards" : Str) = some t := ((lk_no (k := "towards") (x := "built") (by decide +kernel)).trans ((lk_no (k := "towards") (x := "pipes") (by decide +kernel)).trans ((lk_no (k := "towards") (x := "doors") (by decide +kernel)).trans ((lk_no (k := "towards") (x := "gaps") (by decide +kernel)).trans lk_yes))))
def PlanAt (C : Addr) (av : List Addr) (H : Hp) (a : Addr) (n : Int) (ps : List Pi) (d : Int → Int → Int) : Prop :=
  ∃ (dx hb pp dl gl tl : Addr) (xp : List V) (ds gs ws : List Addr), a ∉ av ∧ H a = some (.ins C dx (pf5 (.ref hb) (.ref pp) (.ref dl) (.ref gl) (.ref tl))) ∧ hb ∉ av ∧ H hb = some (.tup [.int n, .ref pp]) ∧ pp ∉ av ∧ H pp = some (.tup xp) ∧ Dts av H xp (ps.map Pi.dat) ∧
    dl ∉ av ∧ H dl = some (.lst (ds.map V.ref)) ∧ (ds.length : Int) = n ∧ (∀ z ∈ ds, z ∉ av) ∧ Rws av H ds (fun r => doorsTo ps (r : Int) ps.length) 100 ∧
    gl ∉ av ∧ H gl = some (.lst (gs.map V.ref)) ∧ gs.length = n.toNat ∧ (∀ (r : Nat) (z : Addr), gs[r]? = some z → z ∉ av ∧ GapsAt H z n d (r : Int)) ∧
    tl ∉ av ∧ H tl = some (.lst (ws.map V.ref)) ∧ ws.length = n.toNat ∧ ∀ (r : Nat) (z : Addr), ws[r]? = some z → z ∉ av ∧ TowAt av H z n ps d (r : Int)
theorem GapsAt.keep {av : List Addr} {H H' : Hp} {z : Addr} {n r : Int} {d : Int → Int → Int} (h : GapsAt H z n d r) (nz : z ∉ av) (k : Keep av H H') : GapsAt H' z n d r := by
  obtain ⟨kvs, e, h⟩ := h
  exact ⟨kvs, k z _ e nz, h⟩
theorem TowAt.keep {av : List Addr} {H H' : Hp} {z : Addr} {n r : Int} {ps : List Pi} {d : Int → Int → Int} (h : TowAt av H z n ps d r) (nz : z ∉ av) (k : Keep av H H') : TowAt av H' z n ps d r := by
  obtain ⟨kvs, e, h⟩ := h
  refine ⟨kvs, k z _ e nz, fun t ht nt => ?_⟩
  obtain ⟨T, row, h1, h2, h3, h4⟩ := h t ht nt
  exact ⟨T, row, h1, h2, k T _ h3 h2, h4⟩
theorem TowAt.less {av av' : List Addr} {H : Hp} {z : Addr} {n r : Int} {ps : List Pi} {d : Int → Int → Int} (h : TowAt av H z n ps d r) (s : ∀ a ∈ av', a ∈ av) : TowAt av' H z n ps d r := by
  obtain ⟨kvs, e, h⟩ := h
  refine ⟨kvs, e, fun t ht nt => ?_⟩
  obtain ⟨T, row, h1, h2, h3, h4⟩ := h t ht nt
  exact ⟨T, row, h1, fun m => h2 (s T m), h3, h4⟩
theorem Rws.keep {av : List Addr} {G G' : Hp} {ds : List Addr} {f : Nat → List (List Int)} {m : Nat} (h : Rws av G ds f m) (nz : ∀ z ∈ ds, z ∉ av) (k : Keep av G G') : Rws av G' ds f m := fun r a e => by
  obtain ⟨ts, h1, h2, h3⟩ := h r a e
  exact ⟨ts, k a _ h1 (nz a (List.mem_of_getElem? e)), h2.keep k, h3⟩
theorem Rws.more {av : List Addr} {G : Hp} {ds : List Addr} {f : Nat → List (List Int)} {m : Nat} {p : Addr} (h : Rws av G ds f m) (n : G p = none) : Rws (p :: av) G ds f m := fun r a e => by
  obtain ⟨ts, h1, h2, h3⟩ := h r a e
  exact ⟨ts, h1, h2.more n, h3⟩
theorem PlanAt.keep {C : Addr} {av : List Addr} {H H' : Hp} {a : Addr} {n : Int} {ps : List Pi} {d : Int → Int → Int} (h : PlanAt C av H a n ps d) (k : Keep av H H') : PlanAt C av H' a n ps d := by
  obtain ⟨dx, hb, pp, dl, gl, tl, xp, ds, gs, ws, a1, a2, a3, a4, a5, a6, a7, a8, a9, b1, b2, b3, b4, b5, b6, b7, b8, b9, c1, c2⟩ := h
  exact ⟨dx, hb, pp, dl, gl, tl, xp, ds, gs, ws, a1, k _ _ a2 a1, a3, k _ _ a4 a3, a5, k _ _ a6 a5, a7.keep k, a8, k _ _ a9 a8, b1, b2, b3.keep b2 k, b4, k _ _ b5 b4, b6, fun r z e => ⟨(b7 r z e).1, (b7 r z e).2.keep (b7 r z e).1 k⟩, b8, k _ _ b9 b8, c1, fun r z e => ⟨(c2 r z e).1, (c2 r z e).2.keep (c2 r z e).1 k⟩⟩
theorem PlanAt.less {C : Addr} {av av' : List Addr} {H : Hp} {a : Addr} {n : Int} {ps : List Pi} {d : Int → Int → Int} (h : PlanAt C av H a n ps d) (s : ∀ a ∈ av', a ∈ av) : PlanAt C av' H a n ps d := by
  obtain ⟨dx, hb, pp, dl, gl, tl, xp, ds, gs, ws, a1, a2, a3, a4, a5, a6, a7, a8, a9, b1, b2, b3, b4, b5, b6, b7, b8, b9, c1, c2⟩ := h
  have f : ∀ {z : Addr}, z ∉ av → z ∉ av' := fun nz m => nz (s _ m)
  exact ⟨dx, hb, pp, dl, gl, tl, xp, ds, gs, ws, f a1, a2, f a3, a4, f a5, a6, a7.less s, f a8, a9, b1, fun z m => f (b2 z m), b3.less s, f b4, b5, b6, fun r z e => ⟨f (b7 r z e).1, (b7 r z e).2⟩, f b8, b9, c1, fun r z e => ⟨f (c2 r z e).1, (c2 r z e).2.less s⟩⟩
/-! a class of the program whose __init__ keeps a promise -/
def CanMk (P : Program) (w : World) (K : PySem.W.Frag) (mg : Str → Option Value) (base : Heap) (x : Str) (C : Addr) (ps : List Str) (k : Nat) (sp : Sp) : Prop := ∃ f fd, Mk K C f ∧ FnOk P w K mg base CX0 k f fd ps sp ∧ mg x = some (.ref C) ∧ Binds K fd ps []
theorem pe_mk {X : Cx} {x : Str} {C : Addr} {ps : List Str} {k : Nat} {sp : Sp} {e : Expr} {es : List Expr} {t : TA} {p pos : Pos} (M : CanMk X.prog X.w X.K X.mg X.base x C ps k sp) (hr : Room (k + 1) X.A) (hg : Gl X x)
    (ha : PA X (e :: es) t) (hdb : (x == ("__debug__" : Str)) = false := by decide) (he : starEach (e :: es) X.env = (false, eval e X.env) :: starEach es X.env := by rfl) (hpl : (backTo pos (starEach es X.env)).any (·.1) = false := by rfl) :
    PE X (.Call (.Name x p) (e :: es) [] pos) (tMake C sp [] E0 t) := by
  obtain ⟨f, fd, M, F, gm, b⟩ := M
  exact pe_make M F hr hg gm b .nil pass0 ha hdb he hpl
structure PlanTxt (K : PySem.W.Frag) (C : Addr) : Prop where
  cl : Cls K C
  nB : NoAttr K C "built"
  nP : NoAttr K C "pipes"
  nD : NoAttr K C "doors"
  nG : NoAttr K C "gaps"
  nT : NoAttr K C "towards"
section
variable {P : Program} {w : World} {K : PySem.W.Frag} {mg : Str → Option Value} {base : Heap}
abbrev sInit : Stmt := inClass (topS 1) 0
abbrev nInit : List Str := ["self", "house", "room", "gaps", "towards"]
theorem scInit : FnScope nInit ["self", "house"] (defScope sInit) := ⟨rfl, rfl, rfl, by decide +kernel, rfl, by decide +kernel, by decide +kernel⟩
def spInit (C : Addr) : Sp := fun vs H Q _ => ∃ (x dx : Addr) (h : V) (n : Int) (ps : List Pi) (d : Int → Int → Int) (av : List Addr), vs = [.ref x, h] ∧ H x = some (.ins C dx []) ∧ x ∉ av ∧ Dt (x :: av) H h (houseD n (ps.map Pi.dat)) ∧ HouseOk n ps ∧ Tm n ps d ∧ Tr av H ∧
  ∀ H' : Hp, Keep [x] H H' → Tr av H' → PlanAt C av H' x n ps d → Q .non H'
theorem ok_init {C f : Addr} {fd : FuncData} (F : Fun K "__init__" "Plan.__init__" sInit f fd) (B : Blt mg) (X : PlanTxt K C) (CD : Can P w K mg base "doors_of" ["house"] 1 spDoors) (CS : Can P w K mg base "spread_from" ["doors", "room"] 1 spSpread) : FnOk P w K mg base CX0 2 f fd ["self", "house"] (spInit C) := by
  refine F.ok (k := 1) scInit (fun vs H Q E h => ?_) (fun cdv A outer s H vs Q E hr h => ?_)
  · obtain ⟨x, dx, h, n, ps, d, av, rfl, _⟩ := h
    rfl
  · obtain ⟨x, dx, h, n, ps, d, av, rfl, ex, nx, hh, hk, T, tr, q⟩ := h
    have n1 := hk.n1
    have n2 := hk.n2
    refine ⟨_, pss_cons (ps_fld (pv 0) (pv 1) rfl)
      (pss_cons (ps_fld (pv 0) (pe_ix ix_tup (pv 1) pe_int (fun _ _ => rfl)) rfl)
      (pss_cons (ps_fld (pv 0) (pe_can CD (hr.mono (by decide)) (by rfl) (pa_cons (pv 1) pa_nil)) rfl)
      (pss_cons (ps_fld (pv 0) (pe_lst pa_nil) rfl)
      (pss_cons (ps_fld (pv 0) (pe_lst pa_nil) rfl)
      (pss_one (ps_for PassesOwn.never rfl (pi_range1 (by rfl) B.range_ (pa_cons (pe_ix ix_tup (pv 1) pe_int (fun _ _ => rfl)) pa_nil)) (pg_name (i := 2) scInit.nd rfl (by first | exact Or.inl rfl | exact Or.inr rfl))
      (pss_cons (ps_asg (pe_can CS (hr.mono (by decide)) (by rfl) (pa_cons (pe_fld (pv 0) rfl) (pa_cons (pv 2) pa_nil))) (pg_tup (by rfl) (pgs_cons (pg_name (i := 3) scInit.nd rfl (by first | exact Or.inl rfl | exact Or.inr rfl)) (pgs_cons (pg_name (i := 4) scInit.nd rfl (by first | exact Or.inl rfl | exact Or.inr rfl)) pgs_nil))))
      (pss_cons (ps_expr (pe_bm PySem.F.plainAttrs_list PySem.F.slot_list_append PySem.F.type_list_append mt_append (pe_fld (pv 0) rfl) (pa_cons (pv 3) pa_nil)))
      (pss_one (ps_expr (pe_bm PySem.F.plainAttrs_list PySem.F.slot_list_append PySem.F.type_list_append mt_append (pe_fld (pv 0) rfl) (pa_cons (pv 4) pa_nil)))))))))))), ?_⟩
    obtain ⟨ah, ap, xp, rfl, na, ea, nb, eb, db⟩ := house_parts hh
    have nax : ah ≠ x := fun z => na (by rw [z]; exact List.mem_cons_self)
    have nbx : ap ≠ x := fun z => nb (by rw [z]; exact List.mem_cons_self)
    refine ⟨.ref ah, rfl, .ref x, rfl, x, C, dx, [], rfl, ex, X.cl, X.nB, by show 0 < 1000; decide, ?_⟩
    refine ⟨.ref ah, rfl, ah, [.int n, .ref ap], 1, .ref ap, rfl, rfl, SqT.of (by rw [upd_ne nax]; exact ea), atI_nat (j := 1) rfl, .ref x, rfl, x, C, dx, _, rfl, upd_same, X.cl, X.nP, by show 1 < 1000; decide, ?_⟩
    rw [upd_upd, show putF "built" (V.ref ah) [] = pf1 (.ref ah) from rfl, pf_2]
    have kx : ∀ o, Keep (x :: av) H (upd H x o) := fun o => Keep.put List.mem_cons_self
    have trx : ∀ o, Tr (x :: av) (upd H x o) := fun o => (tr.upd).cons upd_same
    refine ⟨.ref ah, rfl, .ref ah, n, ps, x :: av, rfl, hh.keep (kx _), hk, trx _, fun H1 Dl ds k1 fD nD nds tr1 eD dl rws => ?_⟩
    have ex1 := k1 x _ upd_same List.not_mem_nil
    refine ⟨.ref x, rfl, x, C, dx, _, rfl, ex1, X.cl, X.nD, by show 2 < 1000; decide, ?_⟩
    rw [pf_3]
    have nDx : Dl ≠ x := fun z => nD (by rw [z]; exact List.mem_cons_self)
    have kA : Keep [x] H (upd H1 x (.ins C dx (pf3 (.ref ah) (.ref ap) (.ref Dl)))) := ((Keep.put List.mem_cons_self).trans k1.of).trans (Keep.put List.mem_cons_self)
    have rwA : Rws (x :: av) (upd H1 x (.ins C dx (pf3 (.ref ah) (.ref ap) (.ref Dl)))) ds (fun r => doorsTo ps (r : Int) ps.length) 100 := rws.keep nds (Keep.put List.mem_cons_self)
    have eDA : (upd H1 x (.ins C dx (pf3 (.ref ah) (.ref ap) (.ref Dl)))) Dl = some (.lst (ds.map V.ref)) := by rw [upd_ne nDx]; exact eD
    have exA : (upd H1 x (.ins C dx (pf3 (.ref ah) (.ref ap) (.ref Dl)))) x = some (.ins C dx (pf3 (.ref ah) (.ref ap) (.ref Dl))) := upd_same
    have trA : Tr (x :: av) (upd H1 x (.ins C dx (pf3 (.ref ah) (.ref ap) (.ref Dl)))) := tr1.upd
    have kA2 : Keep (x :: av) H (upd H1 x (.ins C dx (pf3 (.ref ah) (.ref ap) (.ref Dl)))) := kA.mono (fun z m => by rw [List.mem_singleton.mp m]; exact List.mem_cons_self)
    generalize upd H1 x (.ins C dx (pf3 (.ref ah) (.ref ap) (.ref Dl))) = HA at kA kA2 rwA eDA exA trA ⊢
    refine ⟨show 0 ≤ sizeLine by decide, fun gl ngl => ?_⟩
    have exB : (upd HA gl (.lst [])) x = some (.ins C dx (pf3 (.ref ah) (.ref ap) (.ref Dl))) := by rw [upd_ne (ne_of_none exA ngl)]; exact exA
    refine ⟨.ref x, rfl, x, C, dx, _, rfl, exB, X.cl, X.nG, by show 3 < 1000; decide, ?_⟩
    rw [pf_4]
    refine ⟨show 0 ≤ sizeLine by decide, fun tl ntl => ?_⟩
    have ngx : gl ≠ x := (ne_of_none exA ngl).symm
    have egB : (upd (upd HA gl (.lst [])) x (.ins C dx (pf4 (.ref ah) (.ref ap) (.ref Dl) (.ref gl)))) gl = some (.lst []) := by rw [upd_ne ngx]; exact upd_same
    have exC : (upd (upd (upd HA gl (.lst [])) x (.ins C dx (pf4 (.ref ah) (.ref ap) (.ref Dl) (.ref gl)))) tl (.lst [])) x = some (.ins C dx (pf4 (.ref ah) (.ref ap) (.ref Dl) (.ref gl))) := by
      rw [upd_ne (ne_of_none upd_same ntl)]; exact upd_same
    refine ⟨.ref x, rfl, x, C, dx, _, rfl, exC, X.cl, X.nT, by show 4 < 1000; decide, ?_⟩
    rw [pf_5]
    have ntx : tl ≠ x := (ne_of_none (upd_same (H := upd HA gl (.lst [])) (a := x) (o := .ins C dx (pf4 (.ref ah) (.ref ap) (.ref Dl) (.ref gl)))) ntl).symm
    have ntg : tl ≠ gl := (ne_of_none egB ntl).symm
    have fgl : HA gl = none := ngl
    have ftl : HA tl = none := by rw [upd_ne ntx, upd_ne ntg] at ntl; exact ntl
    have nDg : Dl ≠ gl := ne_of_none eDA fgl
    have nDt : Dl ≠ tl := ne_of_none eDA ftl
    have nDav : Dl ∉ gl :: tl :: x :: av := fun m => by
      rcases List.mem_cons.mp m with m | m
      · exact nDg m
      · rcases List.mem_cons.mp m with m | m
        · exact nDt m
        · exact nD m
    have nds3 : ∀ z ∈ ds, z ∉ gl :: tl :: x :: av := fun z hz m => by
      obtain ⟨r, gr⟩ := List.mem_iff_getElem?.mp hz
      obtain ⟨ts, ez, _⟩ := rwA r z gr
      rcases List.mem_cons.mp m with m | m
      · exact ne_of_none ez fgl m
      · rcases List.mem_cons.mp m with m | m
        · exact ne_of_none ez ftl m
        · exact nds z hz m
    have fgH : H gl = none := by
      cases e : H gl with
      | none => rfl
      | some o => rw [kA gl o e (fun m => ngx (List.mem_singleton.mp m))] at fgl; cases fgl
    have ftH : H tl = none := by
      cases e : H tl with
      | none => rfl
      | some o => rw [kA tl o e (fun m => ntx (List.mem_singleton.mp m))] at ftl; cases ftl
    have m1 : gl ∈ gl :: tl :: x :: av := by simp
    have m2 : tl ∈ gl :: tl :: x :: av := by simp
    have m3 : x ∈ gl :: tl :: x :: av := by simp
    have exD := upd_same (H := upd (upd (upd HA gl (.lst [])) x (.ins C dx (pf4 (.ref ah) (.ref ap) (.ref Dl) (.ref gl)))) tl (.lst [])) (a := x) (o := .ins C dx (pf5 (.ref ah) (.ref ap) (.ref Dl) (.ref gl) (.ref tl)))
    have kD : Keep (gl :: tl :: x :: av) HA (upd (upd (upd (upd HA gl (.lst [])) x (.ins C dx (pf4 (.ref ah) (.ref ap) (.ref Dl) (.ref gl)))) tl (.lst [])) x (.ins C dx (pf5 (.ref ah) (.ref ap) (.ref Dl) (.ref gl) (.ref tl)))) := (((Keep.put m1).trans (Keep.put m3)).trans (Keep.put m2)).trans (Keep.put m3)
    have kDx : Keep [x] H (upd (upd (upd (upd HA gl (.lst [])) x (.ins C dx (pf4 (.ref ah) (.ref ap) (.ref Dl) (.ref gl)))) tl (.lst [])) x (.ins C dx (pf5 (.ref ah) (.ref ap) (.ref Dl) (.ref gl) (.ref tl)))) :=
      (((kA.trans (Keep.new ngl)).trans (Keep.put List.mem_cons_self)).trans (Keep.new ntl)).trans (Keep.put List.mem_cons_self)
    have egD : (upd (upd (upd (upd HA gl (.lst [])) x (.ins C dx (pf4 (.ref ah) (.ref ap) (.ref Dl) (.ref gl)))) tl (.lst [])) x (.ins C dx (pf5 (.ref ah) (.ref ap) (.ref Dl) (.ref gl) (.ref tl)))) gl = some (.lst []) := by
      rw [upd_ne ngx, upd_ne ntg.symm, upd_ne ngx]; exact upd_same
    have etD : (upd (upd (upd (upd HA gl (.lst [])) x (.ins C dx (pf4 (.ref ah) (.ref ap) (.ref Dl) (.ref gl)))) tl (.lst [])) x (.ins C dx (pf5 (.ref ah) (.ref ap) (.ref Dl) (.ref gl) (.ref tl)))) tl = some (.lst []) := by
      rw [upd_ne ntx]; exact upd_same
    have trD : Tr (gl :: tl :: x :: av) (upd (upd (upd (upd HA gl (.lst [])) x (.ins C dx (pf4 (.ref ah) (.ref ap) (.ref Dl) (.ref gl)))) tl (.lst [])) x (.ins C dx (pf5 (.ref ah) (.ref ap) (.ref Dl) (.ref gl) (.ref tl)))) := fun a m => by
      rcases List.mem_cons.mp m with m | m
      · rw [m]; exact ⟨_, egD⟩
      · rcases List.mem_cons.mp m with m | m
        · rw [m]; exact ⟨_, etD⟩
        · exact (((trA.upd).upd).upd).upd a m
    generalize upd (upd (upd (upd HA gl (.lst [])) x (.ins C dx (pf4 (.ref ah) (.ref ap) (.ref Dl) (.ref gl)))) tl (.lst [])) x (.ins C dx (pf5 (.ref ah) (.ref ap) (.ref Dl) (.ref gl) (.ref tl))) = HD at exD kD kDx egD etD trD ⊢
    have eaD := kDx ah _ ea (fun m => nax (List.mem_singleton.mp m))
    refine ⟨.ref ah, rfl, ah, [.int n, .ref ap], 0, .int n, rfl, rfl, SqT.of eaD, atI_nat (j := 0) rfl, n, rfl, by omega, by omega, for_range (lo := 0) (n := n.toNat)
      (fun i σ G => ∃ s2 s3 s4, σ = [some (.ref x), some (.ref ah), s2, s3, s4] ∧ Keep [x] H G ∧ Keep (gl :: tl :: x :: av) HA G ∧ Tr (gl :: tl :: x :: av) G ∧ G x = some (.ins C dx (pf5 (.ref ah) (.ref ap) (.ref Dl) (.ref gl) (.ref tl))) ∧
        ∃ gs ws : List Addr, gs.length = i ∧ ws.length = i ∧ G gl = some (.lst (gs.map V.ref)) ∧ G tl = some (.lst (ws.map V.ref)) ∧ (∀ (r : Nat) (z : Addr), gs[r]? = some z → z ∉ gl :: tl :: x :: av ∧ GapsAt G z n d (r : Int)) ∧ ∀ (r : Nat) (z : Addr), ws[r]? = some z → z ∉ gl :: tl :: x :: av ∧ TowAt (gl :: tl :: x :: av) G z n ps d (r : Int))
      ⟨_, _, _, rfl, kDx, kD, trD, exD, [], [], rfl, rfl, egD, etD, fun r z e => by simp at e, fun r z e => by simp at e⟩ (fun i σ G hi p => ?_) (fun σ G p => ?_)⟩
    · obtain ⟨s2, s3, s4, rfl, kG, kG2, trG, exG, gs, ws, lg, lw, eg, et, hg, hw⟩ := p
      have eDG := kG2 Dl _ eDA nDav
      have rwG : Rws (gl :: tl :: x :: av) G ds (fun r => doorsTo ps (r : Int) ps.length) 100 := by
        have z : Rws (gl :: tl :: x :: av) HA ds (fun r => doorsTo ps (r : Int) ps.length) 100 := by
          have z1 : Rws (tl :: x :: av) HA ds (fun r => doorsTo ps (r : Int) ps.length) 100 := rwA.more ftl
          exact z1.more fgl
        exact z.keep nds3 kG2
      refine ⟨.ref x, rfl, x, C, dx, _, .ref Dl, rfl, exG, X.cl, X.nD, pf_doors .., .int (0 + (i : Int)), rfl, Dl, ds, n, 0 + (i : Int), ps, d, gl :: tl :: x :: av, rfl, eDG, dl, rwG, hk, T, by omega, by omega, trG, fun G1 t g w k1 tr1 nt ng nw etp gp tw => ?_⟩
      refine ⟨t, [.ref g, .ref w], rfl, SqT.of etp, rfl, _, _, rfl, _, [], rfl, rfl, ?_⟩
      have ex1 := k1 x _ exG List.not_mem_nil
      have eg1 := k1 gl _ eg List.not_mem_nil
      have et1 := k1 tl _ et List.not_mem_nil
      refine ⟨.ref x, rfl, x, C, dx, _, .ref gl, rfl, ex1, X.cl, X.nG, pf_gaps .., .inl ⟨rfl, _, SqL.of eg1⟩, .ref g, rfl, gl, _, _, rfl, rfl, eg1, by rw [List.length_map]; exact Nat.lt_of_lt_of_le (by omega : gs.length < 1000) (small1000 (by omega)), ?_⟩
      have ex2 : (upd G1 gl (.lst (gs.map V.ref ++ [.ref g]))) x = some (.ins C dx (pf5 (.ref ah) (.ref ap) (.ref Dl) (.ref gl) (.ref tl))) := by rw [upd_ne ngx.symm]; exact ex1
      have et2 : (upd G1 gl (.lst (gs.map V.ref ++ [.ref g]))) tl = some (.lst (ws.map V.ref)) := by rw [upd_ne ntg]; exact et1
      refine ⟨.ref x, rfl, x, C, dx, _, .ref tl, rfl, ex2, X.cl, X.nT, pf_tow .., .inl ⟨rfl, _, SqL.of et2⟩, .ref w, rfl, tl, _, _, rfl, rfl, et2, by rw [List.length_map]; exact Nat.lt_of_lt_of_le (by omega : ws.length < 1000) (small1000 (by omega)), ?_⟩
      have kF : Keep (gl :: tl :: x :: av) G1 (upd (upd G1 gl (.lst (gs.map V.ref ++ [.ref g]))) tl (.lst (ws.map V.ref ++ [.ref w]))) := (Keep.put m1).trans (Keep.put m2)
      have kF0 : Keep (gl :: tl :: x :: av) G (upd (upd G1 gl (.lst (gs.map V.ref ++ [.ref g]))) tl (.lst (ws.map V.ref ++ [.ref w]))) := k1.of.trans kF
      have i0 : (0 + (i : Int)) = (i : Int) := by omega
      rw [i0] at gp tw
      refine ⟨_, _, _, rfl, ?_, kG2.trans kF0, (tr1.upd).upd, by rw [upd_ne ntx.symm]; exact ex2, gs ++ [g], ws ++ [w], by rw [List.length_append, lg]; rfl, by rw [List.length_append, lw]; rfl, ?_, ?_, fun r z e => ?_, fun r z e => ?_⟩
      · exact ((kG.trans k1.of).upd fgH).upd ftH
      · rw [upd_ne ntg.symm, upd_same, List.map_append]; rfl
      · rw [upd_same, List.map_append]; rfl
      · by_cases c : r < gs.length
        · rw [List.getElem?_append_left c] at e
          exact ⟨(hg r z e).1, (hg r z e).2.keep (hg r z e).1 kF0⟩
        · rw [List.getElem?_append_right (by omega)] at e
          have c2 : r - gs.length = 0 := by
            apply Classical.byContradiction
            intro c2
            rw [List.getElem?_eq_none (by simp; omega)] at e; cases e
          rw [c2] at e
          cases e
          have cr : r = i := by omega
          subst cr
          exact ⟨ng, gp.keep ng kF⟩
      · by_cases c : r < ws.length
        · rw [List.getElem?_append_left c] at e
          exact ⟨(hw r z e).1, (hw r z e).2.keep (hw r z e).1 kF0⟩
        · rw [List.getElem?_append_right (by omega)] at e
          have c2 : r - ws.length = 0 := by
            apply Classical.byContradiction
            intro c2
            rw [List.getElem?_eq_none (by simp; omega)] at e; cases e
          rw [c2] at e
          cases e
          have cr : r = i := by omega
          subst cr
          exact ⟨nw, tw.keep nw kF⟩
    · obtain ⟨s2, s3, s4, rfl, kG, kG2, trG, exG, gs, ws, lg, lw, eg, et, hg, hw⟩ := p
      have sub : ∀ a ∈ av, a ∈ gl :: tl :: x :: av := fun a m => by simp [m]
      have f : ∀ {z : Addr}, z ∉ gl :: tl :: x :: av → z ∉ av := fun nz m => nz (sub _ m)
      have f1 : ∀ {z : Addr}, z ∉ x :: av → z ∉ av := fun nz m => nz (List.mem_cons_of_mem _ m)
      have kav : Keep (x :: av) H G := kG.mono (fun z m => by rw [List.mem_singleton.mp m]; exact List.mem_cons_self)
      have rwG : Rws (gl :: tl :: x :: av) G ds (fun r => doorsTo ps (r : Int) ps.length) 100 := by
        have z : Rws (gl :: tl :: x :: av) HA ds (fun r => doorsTo ps (r : Int) ps.length) 100 := by
          have z1 : Rws (tl :: x :: av) HA ds (fun r => doorsTo ps (r : Int) ps.length) 100 := rwA.more ftl
          exact z1.more fgl
        exact z.keep nds3 kG2
      refine q G kG (fun a m => trG a (sub a m)) ⟨dx, ah, ap, Dl, gl, tl, xp, ds, gs, ws, nx, exG, f1 na, kav ah _ ea na, f1 nb, kav ap _ eb nb, (db.keep kav).less (fun a m => List.mem_cons_of_mem _ m), f nDav, kG2 Dl _ eDA nDav, dl, fun z m => f (nds3 z m), rwG.less sub, ?_, eg, lg, fun r z e => ⟨f (hg r z e).1, (hg r z e).2⟩, ?_, et, lw, fun r z e => ⟨f (hw r z e).1, (hw r z e).2.less sub⟩⟩
      · exact tr.not fgH
      · exact tr.not ftH
end
end Rw

namespace Rw
open PySem PySem.Spec PyProof.Rows L2
/-! ### how far places lie apart -/
def onePipe (p q : Pl) : Bool := decide (p.length = 2) && (decide (q.length = 2) && decide (p.headD 0 = q.headD 0))
def exitsL (ps : List Pi) : Pl → List (List Int)
  | [r] => [[r, 0]]
  | [i, a] => [[(pr ps i).x, a], [(pr ps i).y, (pr ps i).l - a]]
  | _ => []
theorem Dt.nil {av : List Addr} {H : Hp} {v : V} {d : PyData} (h : Dt av H v d) : Dt [] H v d := h.less fun _ m => nomatch m
section
variable {P : Program} {w : World} {K : PySem.W.Frag} {mg : Str → Option Value} {base : Heap}
abbrev sOnePipe : Stmt := topS 6
abbrev nOnePipe : List Str := ["one", "other"]
theorem scOnePipe : FnScope nOnePipe ["one", "other"] (defScope sOnePipe) := ⟨rfl, rfl, rfl, by decide +kernel, rfl, by decide +kernel, by decide +kernel⟩
def spOnePipe : Sp := fun vs H Q _ => ∃ (o1 o2 : V) (p q : Pl), vs = [o1, o2] ∧ Dt [] H o1 (tupI p) ∧ Dt [] H o2 (tupI q) ∧ p ≠ [] ∧ q ≠ [] ∧ Q (.bl (onePipe p q)) H
theorem ok_onePipe (h : Has K mg "are_in_one_pipe" sOnePipe) (B : Blt mg) : Can P w K mg base "are_in_one_pipe" ["one", "other"] 1 spOnePipe := by
  obtain ⟨f, fd, F, g⟩ := h
  refine ⟨f, fd, F.ok (k := 0) scOnePipe (fun vs H Q E h => ?_) (fun cdv A outer s H vs Q E hr h => ?_), g, F.kp, F.binds fun _ _ _ _ _ _ us hl => match us, hl with | [_, _], _ => rfl⟩
  · obtain ⟨o1, o2, p, q, rfl, _⟩ := h
    rfl
  · obtain ⟨o1, o2, p, q, rfl, h1, h2, n1, n2, k⟩ := h
    refine ⟨_, pss_one (ps_ret (pe_and (pe_cmpR op_eq (pe_callB call_len_seq (by rfl) B.len_ PySem.boot_len (pa_cons (pv 0) pa_nil)) pe_int (nomark _)) (pe_and (pe_cmpR op_eq (pe_callB call_len_seq (by rfl) B.len_ PySem.boot_len (pa_cons (pv 1) pa_nil)) pe_int (nomark _)) (pe_one (pe_cmpR op_eq (pe_ix ix_tup (pv 0) pe_int (fun _ _ => rfl)) (pe_ix ix_tup (pv 1) pe_int (fun _ _ => rfl)) (nomark _)))))), ?_⟩
    obtain ⟨a1, rfl, _, e1⟩ := tupI_at h1
    obtain ⟨a2, rfl, _, e2⟩ := tupI_at h2
    obtain ⟨x, xs, rfl⟩ := List.exists_cons_of_ne_nil n1
    obtain ⟨y, ys, rfl⟩ := List.exists_cons_of_ne_nil n2
    have l1 : decide (V.int (((x :: xs).map V.int).length : Int) = V.int 2) = decide ((x :: xs).length = 2) := by
      rw [List.length_map]; exact decide_eq_decide.mpr ⟨fun z => by have := V.int.inj z; omega, fun z => by rw [z]; rfl⟩
    have l2 : decide (V.int (((y :: ys).map V.int).length : Int) = V.int 2) = decide ((y :: ys).length = 2) := by
      rw [List.length_map]; exact decide_eq_decide.mpr ⟨fun z => by have := V.int.inj z; omega, fun z => by rw [z]; rfl⟩
    refine ⟨.ref a1, rfl, a1, _, rfl, .inr (SqT.of e1), rfl, _, rfl, ?_⟩
    rw [l1]
    unfold onePipe at k
    cases c1 : decide ((x :: xs).length = 2) with
    | false => rw [c1] at k; exact iteF k
    | true =>
      rw [c1] at k
      refine iteT ⟨.ref a2, rfl, a2, _, rfl, .inr (SqT.of e2), rfl, _, rfl, ?_⟩
      rw [l2]
      cases c2 : decide ((y :: ys).length = 2) with
      | false => rw [c2] at k; exact iteF k
      | true =>
        rw [c2] at k
        refine iteT ⟨.ref a1, rfl, a1, _, 0, .int x, rfl, rfl, SqT.of e1, atI_nat (j := 0) rfl, .ref a2, rfl, a2, _, 0, .int y, rfl, rfl, SqT.of e2, atI_nat (j := 0) rfl, rfl, ?_⟩
        have z : decide (V.int x = V.int y) = decide ((x :: xs).headD 0 = (y :: ys).headD 0) := decide_eq_decide.mpr ⟨fun z => V.int.inj z, fun z => congrArg V.int z⟩
        rw [z]; exact k
abbrev sExits : Stmt := topS 7
abbrev nExits : List Str := ["plan", "place", "one", "other", "length"]
theorem scExits : FnScope nExits ["plan", "place"] (defScope sExits) := ⟨rfl, rfl, rfl, by decide +kernel, rfl, by decide +kernel, by decide +kernel⟩
def spExits (C : Addr) : Sp := fun vs H Q _ => ∃ (a : Addr) (v : V) (n : Int) (ps : List Pi) (d : Int → Int → Int) (p : Pl) (av : List Addr), vs = [.ref a, v] ∧ PlanAt C [] H a n ps d ∧ Dt [] H v (tupI p) ∧ okP n ps p ∧ Tr av H ∧
  ∀ (H' : Hp) (l : Addr) (us : List V), Keep [] H H' → l ∉ av → H' l = some (.lst us) → Dts av H' us ((exitsL ps p).map tupI) → Q (.ref l) H'
theorem ok_exits {C : Addr} (h : Has K mg "exits_of" sExits) (B : Blt mg) (X : PlanTxt K C) : Can P w K mg base "exits_of" ["plan", "place"] 1 (spExits C) := by
  obtain ⟨f, fd, F, g⟩ := h
  refine ⟨f, fd, F.ok (k := 0) scExits (fun vs H Q E h => ?_) (fun cdv A outer s H vs Q E hr h => ?_), g, F.kp, F.binds fun _ _ _ _ _ _ us hl => match us, hl with | [_, _], _ => rfl⟩
  · obtain ⟨a, v, n, ps, d, p, av, rfl, _⟩ := h
    rfl
  · obtain ⟨a, v, n, ps, d, p, av, rfl, pl, hv, ok, tr, k⟩ := h
    refine ⟨_, pss_cons (ps_if (pt_cmpR op_eq (pe_callB call_len_seq (by rfl) B.len_ PySem.boot_len (pa_cons (pv 1) pa_nil)) pe_int (nomark _)) (pss_one (ps_ret (pe_lst (pa_cons (pe_tup (pa_cons (pe_ix ix_tup (pv 1) pe_int (fun _ _ => rfl)) (pa_cons pe_int pa_nil))) pa_nil)))) pss_nil)
      (pss_cons (ps_asg (pe_slice sl_tup (pe_ix ix_tup (pe_fld (pv 0) rfl) (pe_ix ix_tup (pv 1) pe_int (fun _ _ => rfl)) (fun _ _ => rfl)) po_none (po_some pe_int)) (pg_tup (by rfl) (pgs_cons (pg_name (i := 2) scExits.nd rfl (by first | exact Or.inl rfl | exact Or.inr rfl)) (pgs_cons (pg_name (i := 3) scExits.nd rfl (by first | exact Or.inl rfl | exact Or.inr rfl)) (pgs_cons (pg_name (i := 4) scExits.nd rfl (by first | exact Or.inl rfl | exact Or.inr rfl)) pgs_nil)))))
      (pss_one (ps_ret (pe_lst (pa_cons (pe_tup (pa_cons (pv 2) (pa_cons (pe_ix ix_tup (pv 1) pe_int (fun _ _ => rfl)) pa_nil))) (pa_cons (pe_tup (pa_cons (pv 3) (pa_cons (pe_op op_sub (pv 4) (pe_ix ix_tup (pv 1) pe_int (fun _ _ => rfl))) pa_nil))) pa_nil)))))), ?_⟩
    obtain ⟨a1, rfl, _, e1⟩ := tupI_at hv
    rcases ok_cases ok with ⟨r, rfl, r0, r1⟩ | ⟨i, b, rfl, h0, h1, b0, b1⟩
    · refine ⟨.ref a1, rfl, a1, _, rfl, .inr (SqT.of e1), rfl, true, rfl, iteT ?_⟩
      refine ⟨.ref a1, rfl, a1, _, 0, .int r, rfl, rfl, SqT.of e1, atI_nat (j := 0) rfl, show 2 ≤ sizeLine by decide, fun t nt => ⟨show 1 ≤ sizeLine by decide, fun l nl => ?_⟩⟩
      exact k _ l _ ((Keep.new nt).trans (Keep.new nl)) ((tr.upd).not nl) upd_same (.cons (.tup (tr.not nt) (Keep.new (av := []) nl t _ upd_same List.not_mem_nil) (Dts.ints [r, 0])) .nil)
    · refine ⟨.ref a1, rfl, a1, _, rfl, .inr (SqT.of e1), rfl, false, rfl, iteF ?_⟩
      obtain ⟨dx, hb, pp, dl, gl, tl, xp, ds, gs, ws, a1', a2, a3, a4, a5, a6, a7, _⟩ := pl
      obtain ⟨p, pa, T1, T2, mp, gp, ga, epa⟩ := pi_at a7 h0 h1
      have epr : p = pr ps i := by
        have z := (pr_mem h0 h1).2
        rw [z] at gp; exact (Option.some.inj gp).symm
      subst epr
      refine ⟨.ref a, rfl, a, C, dx, _, .ref pp, rfl, a2, X.cl, X.nP, pf_pipes .., .ref a1, rfl, a1, _, 0, .int i, rfl, rfl, SqT.of e1, atI_nat (j := 0) rfl, pp, xp, i, .ref pa, rfl, rfl, SqT.of a6, ga, 3, rfl, pa, [.int (pr ps i).x, .int (pr ps i).y, .int (pr ps i).l, .ref T1, .ref T2], rfl, SqT.of epa, show ¬ (HT.sIx 5 0 none = 0 ∧ HT.sIx 5 5 (some 3) = 5) by decide +kernel, fun T3 nT3 => ?_⟩
      refine ⟨T3, [.int (pr ps i).x, .int (pr ps i).y, .int (pr ps i).l], rfl, SqT.of (upd_same.trans (congrArg some (congrArg HO.tup (cut_to _ 3)))), rfl, _, _, rfl, _, _, rfl, _, [], rfl, rfl, ?_⟩
      have e2 := Keep.new (av := []) (o := .tup (cutV [V.int (pr ps i).x, .int (pr ps i).y, .int (pr ps i).l, .ref T1, .ref T2] none (some 3))) nT3 a1 _ e1 List.not_mem_nil
      refine ⟨.int (pr ps i).x, rfl, .ref a1, rfl, a1, _, 1, .int b, rfl, rfl, SqT.of e2, atI_nat (j := 1) rfl, show 2 ≤ sizeLine by decide, fun t nt => ?_⟩
      have e3 := Keep.new (av := []) (o := .tup [.int (pr ps i).x, .int b]) nt a1 _ e2 List.not_mem_nil
      refine ⟨.int (pr ps i).y, rfl, .int (pr ps i).l, rfl, .ref a1, rfl, a1, _, 1, .int b, rfl, rfl, SqT.of e3, atI_nat (j := 1) rfl, (pr ps i).l, b, rfl, rfl, show 2 ≤ sizeLine by decide, fun u nu => ⟨show 2 ≤ sizeLine by decide, fun l nl => ?_⟩⟩
      have kl : Keep [] _ _ := Keep.new (av := []) (o := .lst [.ref t, .ref u]) nl
      have ku : Keep [] _ _ := Keep.new (av := []) (o := .tup [.int (pr ps i).y, .int ((pr ps i).l - b)]) nu
      exact k _ l _ ((Keep.new nT3).trans ((Keep.new nt).trans (ku.trans kl))) ((((tr.upd).upd).upd).not nl) upd_same
        (.cons (.tup ((tr.upd).not nt) (kl t _ (ku t _ upd_same List.not_mem_nil) List.not_mem_nil) (Dts.ints [(pr ps i).x, b])) (.cons (.tup (((tr.upd).upd).not nu) (kl u _ upd_same List.not_mem_nil) (Dts.ints [(pr ps i).y, (pr ps i).l - b])) .nil))
end
end Rw

namespace Rw
open PySem PySem.Spec PyProof.Rows L2
theorem hu10 {k : Nat} {A : Around} (hr : Room k A) : A.units + 10 < cLine := by have := hr.units; omega
/-! the rows that are compared -/
def trip (d : Int → Int → Int) (e f : List Int) : List Int := [e.getD 1 0 + d (e.getD 0 0) (f.getD 0 0) + f.getD 1 0, e.getD 0 0, f.getD 0 0]
def trips (ps : List Pi) (d : Int → Int → Int) (p q : Pl) : List (List Int) := (exitsL ps p).flatMap fun e => (exitsL ps q).map (trip d e)
theorem exits_ok {n : Int} {ps : List Pi} {d : Int → Int → Int} (T : Tm n ps d) {p : Pl} (h : okP n ps p) : ∀ e ∈ exitsL ps p, ∃ r b, e = [r, b] ∧ 0 ≤ r ∧ r < n := by
  intro e he
  rcases ok_cases h with ⟨r, rfl, r0, r1⟩ | ⟨i, b, rfl, h0, h1, b0, b1⟩
  · rw [List.mem_singleton.mp (show e ∈ [[r, 0]] from he)]; exact ⟨r, 0, rfl, r0, r1⟩
  · obtain ⟨x0, x1, y0, y1, _⟩ := T.at h0 h1
    rcases List.mem_cons.mp (show e ∈ [[(pr ps i).x, b], [(pr ps i).y, (pr ps i).l - b]] from he) with rfl | he
    · exact ⟨_, _, rfl, x0, x1⟩
    · rw [List.mem_singleton.mp he]; exact ⟨_, _, rfl, y0, y1⟩
theorem exits_few (ps : List Pi) (p : Pl) : (exitsL ps p).length ≤ 2 := by
  unfold exitsL
  split <;> simp
theorem exits_ne {n : Int} {ps : List Pi} {p : Pl} (h : okP n ps p) : exitsL ps p ≠ [] := by
  rcases ok_cases h with ⟨r, rfl, _⟩ | ⟨i, b, rfl, _⟩
  · intro z; cases z
  · intro z; cases z
theorem lay_tups : ∀ nss : List (List Int), PyData.canLayAll0 (nss.map tupI) = true
  | [] => by simp only [List.map_nil, PyData.canLayAll0]
  | n :: ns => by
    rw [List.map_cons]
    show (PyData.canLay0 (.tuple (n.map .int)) && PyData.canLayAll0 (ns.map tupI)) = true
    rw [lay_tups ns, Bool.and_true]
    show PyData.canLay0 (.tuple (n.map .int)) = true
    simp only [PyData.canLay0, tupI_lay n]
section
variable {P : Program} {w : World} {K : PySem.W.Frag} {mg : Str → Option Value} {base : Heap}
abbrev sShort : Stmt := topS 8
abbrev nShort : List Str := ["plan", "one", "other", "near", "begin", "far", "end"]
theorem scShort : FnScope nShort ["plan", "one", "other"] (defScope sShort) := ⟨rfl, rfl, rfl, by decide +kernel, rfl, by decide +kernel, by decide +kernel⟩
def spShort (C : Addr) : Sp := fun vs H Q _ => ∃ (a : Addr) (o1 o2 : V) (n : Int) (ps : List Pi) (d : Int → Int → Int) (p q : Pl), vs = [.ref a, o1, o2] ∧ PlanAt C [] H a n ps d ∧ Tm n ps d ∧ Dt [] H o1 (tupI p) ∧ Dt [] H o2 (tupI q) ∧ okP n ps p ∧ okP n ps q ∧
  ∀ (H' : Hp) (v : V) (ns : List Int), Keep [] H H' → Dt [] H' v (tupI ns) → ns ∈ trips ps d p q → (∀ m ∈ trips ps d p q, ns.headD 0 ≤ m.headD 0) → Q v H'
theorem ok_short {C : Addr} (h : Has K mg "shortest" sShort) (B : Blt mg) (X : PlanTxt K C) (CE : Can P w K mg base "exits_of" ["plan", "place"] 1 (spExits C)) : Can P w K mg base "shortest" ["plan", "one", "other"] 2 (spShort C) := by
  obtain ⟨f, fd, F, g⟩ := h
  refine ⟨f, fd, F.ok (k := 1) scShort (fun vs H Q E h => ?_) (fun cdv A outer s H vs Q E hr h => ?_), g, F.kp, F.binds fun _ _ _ _ _ _ us hl => match us, hl with | [_, _, _], _ => rfl⟩
  · obtain ⟨a, o1, o2, n, ps, d, p, q, rfl, _⟩ := h
    rfl
  · obtain ⟨a, o1, o2, n, ps, d, p, q, rfl, pl, T, h1, h2, okp, okq, k⟩ := h
    refine ⟨_, pss_one (ps_ret (pe_callB (cr_minT rfl (hu10 hr)) (by rfl) B.min_ boot_min (pa_cons (pe_lc2 (own := [("near", 3), ("begin", 4), ("far", 5), ("end", 6)]) (vs1 := [5, 6]) (tt := tYes) (tt1 := tYes) rfl scShort.nd (pi_list (pe_can CE (hr.mono (by decide)) (by rfl) (pa_cons (pv 0) (pa_cons (pv 1) pa_nil)))) (blkOk_by (N := nShort) (sc := defScope sShort) (by decide +kernel)) (by decide) (fun _ _ _ _ _ => (pg_tupK (K := K) (n := 2) rfl (by rfl) (pgs_cons (pg_name (i := 3) scShort.nd rfl (by first | exact Or.inl rfl | exact Or.inr rfl)) (pgs_cons (pg_name (i := 4) scShort.nd rfl (by first | exact Or.inl rfl | exact Or.inr rfl)) pgs_nil)))) (fun _ _ _ _ _ => pts_nil) (fun _ _ _ _ _ => (pi_listK (K := K) rfl (pe_can CE (hr.mono (by decide)) (by rfl) (pa_cons (pv 0) (pa_cons (pv 2) pa_nil))))) (fun _ _ _ _ _ => (pg_tupK (K := K) (n := 2) rfl (by rfl) (pgs_cons (pg_name (i := 5) scShort.nd rfl (by first | exact Or.inl rfl | exact Or.inr rfl)) (pgs_cons (pg_name (i := 6) scShort.nd rfl (by first | exact Or.inl rfl | exact Or.inr rfl)) pgs_nil)))) (fun _ _ _ _ _ => pts_nil) (fun _ _ _ _ _ => (pe_tup (pa_cons (pe_op op_add (pe_op op_add (pv 4) (pe_dget (hu_of hr) (pe_ix (ix_listK (K := K) rfl) (pe_fldK (K := K) rfl (pv 0) rfl) (pv 3) (fun _ _ => rfl)) (pv 5) (fun _ _ => rfl))) (pv 6)) (pa_cons (pv 3) (pa_cons (pv 5) pa_nil)))))) pa_nil))), ?_⟩
    refine ⟨.ref a, rfl, o1, rfl, a, o1, n, ps, d, p, [], rfl, pl, h1, okp, (show Tr [] H from fun _ m => absurd m List.not_mem_nil), fun H1 l1 us k1 _ el1 du1 => ?_⟩
    refine ⟨l1, rfl, ⟨_, SqL.of el1⟩, fun D nD => ?_⟩
    have nl1 : l1 ≠ D := ne_of_none el1 nD
    have duD := du1.more nD
    have ul : us.length = (exitsL ps p).length := by rw [du1.len, List.length_map]
    have few1 := exits_few ps p
    have few2 := exits_few ps q
    refine ⟨fun i m G => m = us.length - i ∧ i ≤ us.length ∧ Keep [] H1 G ∧ ∃ acc : List V, G D = some (.lst acc) ∧ acc.length ≤ 2 * i ∧ Dts [D] G acc ((((exitsL ps p).take i).flatMap fun e => (exitsL ps q).map (trip d e)).map tupI), ⟨_, rfl, Nat.zero_le _, Keep.new nD, [], upd_same, Nat.zero_le _, .nil⟩, fun i m G z => ?_⟩
    obtain ⟨rfl, hi, kG, acc, eG, lG, dG⟩ := z
    have elG := kG l1 _ el1 List.not_mem_nil
    by_cases c : i < us.length
    · refine .inr ⟨⟨_, us[i], SqL.of elG, List.getElem?_eq_getElem c⟩, fun G' => Keep [] H1 G' ∧ ∃ acc : List V, G' D = some (.lst acc) ∧ acc.length ≤ 2 * (i + 1) ∧ Dts [D] G' acc ((((exitsL ps p).take (i + 1)).flatMap fun e => (exitsL ps q).map (trip d e)).map tupI), fun G' z => ⟨us.length - (i + 1), by omega, rfl, by omega, z⟩, fun x G' y => ?_⟩
      obtain ⟨rfl, hy⟩ := y
      have gx := hy us (SqL.of elG)
      have dG1 : Dts [D] G' us ((exitsL ps p).map tupI) := duD.keep kG.of
      obtain ⟨dd, gd, dx⟩ := dG1.getv i gx
      rw [List.getElem?_map] at gd
      obtain ⟨e, ge, rfl⟩ := Option.map_eq_some_iff.mp gd
      obtain ⟨r, b, rfl, r0, r1⟩ := exits_ok T okp e (List.mem_of_getElem? ge)
      obtain ⟨Te, rfl, _, eTe⟩ := tupI_at dx
      refine ⟨Te, [.int r, .int b], rfl, SqT.of eTe, rfl, _, _, rfl, _, [], rfl, rfl, rfl, ?_⟩
      have trD : Tr [D] G' := fun z m => by rw [List.mem_singleton.mp m]; exact ⟨_, eG⟩
      have plG := pl.keep (k1.trans kG)
      refine ⟨.ref a, rfl, o2, rfl, a, o2, n, ps, d, q, [D], rfl, plG, h2.keep (k1.trans kG), okq, trD, fun H4 l2 us2 k4 nl2 el2 du2 => ?_⟩
      have nl2D : l2 ≠ D := fun z => nl2 (by rw [z]; exact List.mem_cons_self)
      have ul2 : us2.length = (exitsL ps q).length := by rw [du2.len, List.length_map]
      refine ⟨l2, rfl, ⟨_, SqL.of el2⟩, ?_⟩
      refine ⟨fun j m J => m = us2.length - j ∧ j ≤ us2.length ∧ Keep [] H1 J ∧ Keep [D] H4 J ∧ ∃ acc : List V, J D = some (.lst acc) ∧ acc.length ≤ 2 * i + j ∧ Dts [D] J acc (((((exitsL ps p).take i).flatMap fun e => (exitsL ps q).map (trip d e)) ++ ((exitsL ps q).take j).map (trip d [r, b])).map tupI), ⟨_, rfl, Nat.zero_le _, kG.trans k4, Keep.refl _ _, acc, k4 D _ eG List.not_mem_nil, by omega, by rw [List.take_zero, List.map_nil, List.append_nil]; exact dG.keep k4.of⟩, fun j m J z => ?_⟩
      obtain ⟨rfl, hj, kJ, kJ4, acc, eJ, lJ, dJ⟩ := z
      have el2J := kJ4 l2 _ el2 nl2
      by_cases c2 : j < us2.length
      · refine .inr ⟨⟨_, us2[j], SqL.of el2J, List.getElem?_eq_getElem c2⟩, fun J' => Keep [] H1 J' ∧ Keep [D] H4 J' ∧ ∃ acc : List V, J' D = some (.lst acc) ∧ acc.length ≤ 2 * i + (j + 1) ∧ Dts [D] J' acc (((((exitsL ps p).take i).flatMap fun e => (exitsL ps q).map (trip d e)) ++ ((exitsL ps q).take (j + 1)).map (trip d [r, b])).map tupI), fun J' z => ⟨us2.length - (j + 1), by omega, rfl, by omega, z⟩, fun x J' y => ?_⟩
        obtain ⟨rfl, hy⟩ := y
        have gx2 := hy us2 (SqL.of el2J)
        obtain ⟨dd, gd2, dx2⟩ := (du2.keep kJ4).getv j gx2
        rw [List.getElem?_map] at gd2
        obtain ⟨e2, ge2, rfl⟩ := Option.map_eq_some_iff.mp gd2
        obtain ⟨s2, b2, rfl, s0, s1⟩ := exits_ok T okq e2 (List.mem_of_getElem? ge2)
        obtain ⟨Tf, rfl, _, eTf⟩ := tupI_at dx2
        obtain ⟨dxx, hb, pp, dl, gl, tl, xp, ds, gs, ws, a1, a2, a3, a4, a5, a6, a7, a8, a9, b1, b2', b3, b4, b5, b6, b7, _⟩ := pl.keep (k1.trans kJ)
        obtain ⟨gz, ggz⟩ : ∃ gz, gs[r.toNat]? = some gz := ⟨_, List.getElem?_eq_getElem (by omega)⟩
        obtain ⟨_, kvs, ekv, hkv⟩ := b7 r.toNat gz ggz
        have hval : valV kvs (Sum.inl s2) = some (.int (d r s2)) := by
          have z := hkv s2 s0 s1
          rw [show ((r.toNat : Nat) : Int) = r by omega] at z; exact z
        refine ⟨Tf, [.int s2, .int b2], rfl, SqT.of eTf, rfl, _, _, rfl, _, [], rfl, rfl, rfl, ?_⟩
        refine ⟨.int b, rfl, .ref a, rfl, a, C, dxx, _, .ref gl, rfl, a2, X.cl, X.nG, pf_gaps .., .int r, rfl, gl, _, r, .ref gz, rfl, rfl, SqL.of b5, atI_of r0 (by rw [List.getElem?_map, ggz]; rfl), .int s2, rfl, gz, .int (d r s2), rfl, by rw [← hval]; exact DGet.k (k := Sum.inl s2) ekv, b, d r s2, rfl, rfl, .int b2, rfl, b + d r s2, b2, rfl, rfl, .int r, rfl, .int s2, rfl, show 3 ≤ sizeLine by decide, fun t nt => ?_⟩
        have ntD : t ≠ D := (ne_of_none eJ nt).symm
        refine ⟨acc, by rw [upd_ne ntD.symm]; exact eJ, Nat.lt_of_lt_of_le (by omega : acc.length < 1000) (small1000 (by omega)), ?_⟩
        have kt : Keep [] J' (upd J' t (.tup [.int (b + d r s2 + b2), .int r, .int s2])) := Keep.new nt
        refine ⟨(kJ.trans kt).upd nD, (kJ4.trans kt.of).trans (Keep.put List.mem_cons_self), acc ++ [.ref t], upd_same, by rw [List.length_append, List.length_singleton]; omega, ?_⟩
        have tk : ((exitsL ps q).take (j + 1)).map (trip d [r, b]) = ((exitsL ps q).take j).map (trip d [r, b]) ++ [[b + d r s2 + b2, r, s2]] := by rw [List.take_add_one, ge2, List.map_append]; rfl
        rw [tk, ← List.append_assoc, List.map_append]
        exact ((dJ.keep kt.of).keep (Keep.put List.mem_cons_self)).app (.cons (.tup (fun m => ntD (List.mem_singleton.mp m)) (by rw [upd_ne ntD]; exact upd_same) (Dts.ints [b + d r s2 + b2, r, s2])) .nil)
      · refine .inl ⟨⟨_, SqL.of el2J, by omega⟩, kJ, acc, eJ, by omega, ?_⟩
        have ej : j = (exitsL ps q).length := by omega
        have tk : ((exitsL ps p).take (i + 1)).flatMap (fun e => (exitsL ps q).map (trip d e)) = ((exitsL ps p).take i).flatMap (fun e => (exitsL ps q).map (trip d e)) ++ (exitsL ps q).map (trip d [r, b]) := by rw [List.take_add_one, ge, List.flatMap_append]; simp
        rw [tk]
        rw [ej, List.take_length] at dJ
        exact dJ
    · have ei : i = (exitsL ps p).length := by omega
      rw [ei, List.take_length] at dG
      refine .inl ⟨⟨_, SqL.of elG, by omega⟩, ?_⟩
      have dG' : Dts [D] G acc ((trips ps d p q).map tupI) := dG
      obtain ⟨ns, nss, et⟩ : ∃ ns nss, trips ps d p q = ns :: nss := by
        obtain ⟨e, es, h1⟩ := List.exists_cons_of_ne_nil (exits_ne okp)
        obtain ⟨f, fs, h2⟩ := List.exists_cons_of_ne_nil (exits_ne okq)
        refine ⟨trip d e f, fs.map (trip d e) ++ es.flatMap (fun e => (exitsL ps q).map (trip d e)), ?_⟩
        unfold trips
        rw [h1, List.flatMap_cons, h2]; rfl
      rw [et] at dG'
      refine ⟨D, acc, ns, nss, rfl, SqL.of eG, Dts.dp _ _ dG' (lay_tups _), fun t v gv gm => ?_⟩
      have gd : ((ns :: nss).map tupI)[t]? = some (tupI (minL ns nss)) := by rw [List.getElem?_map, gm]; rfl
      obtain ⟨v', gv', dv⟩ := dG'.get t gd
      rw [gv] at gv'; cases gv'
      refine k G v (minL ns nss) (k1.trans kG) dv.nil (by rw [et]; exact minL_mem ns nss) ?_
      rw [et]
      refine minL_head nss ns (fun y hy => ?_)
      rw [← et] at hy
      obtain ⟨e, _, h⟩ := List.mem_flatMap.mp hy
      obtain ⟨f', _, rfl⟩ := List.mem_map.mp h
      intro z; cases z
end
end Rw

namespace Rw
open PySem PySem.Spec PyProof.Rows L2
theorem trips_min {n : Int} {ps : List Pi} {d : Int → Int → Int} (T : Tm n ps d) {p q : Pl} (hp : okP n ps p) (hq : okP n ps q) (ne : onePipe p q = false) {ns : List Int} (m : ns ∈ trips ps d p q) (h : ∀ x ∈ trips ps d p q, ns.headD 0 ≤ x.headD 0) : ns.headD 0 = Dp ps d p q := by
  rcases ok_cases hp with ⟨r, rfl, r0, r1⟩ | ⟨i, b, rfl, h0, h1, b0, b1⟩ <;> rcases ok_cases hq with ⟨t, rfl, t0, t1⟩ | ⟨j, a, rfl, k0, k1, a0, a1⟩
  · have m' : ns ∈ [[0 + d r t + 0, r, t]] := m
    rw [List.mem_singleton.mp m']
    show 0 + d r t + 0 = d r t
    omega
  · have e : trips ps d [r] [j, a] = [[0 + d r (pr ps j).x + a, r, (pr ps j).x], [0 + d r (pr ps j).y + ((pr ps j).l - a), r, (pr ps j).y]] := rfl
    rw [e] at m h
    have g1 := h _ List.mem_cons_self
    have g2 := h _ (List.mem_cons_of_mem _ List.mem_cons_self)
    simp only [List.headD_cons] at g1 g2
    show _ = dr ps d r j a
    unfold dr
    rcases List.mem_cons.mp m with rfl | m
    · simp only [List.headD_cons] at g1 g2 ⊢; omega
    · rw [List.mem_singleton.mp m] at g1 g2 ⊢; simp only [List.headD_cons] at g1 g2 ⊢; omega
  · have e : trips ps d [i, b] [t] = [[b + d (pr ps i).x t + 0, (pr ps i).x, t], [(pr ps i).l - b + d (pr ps i).y t + 0, (pr ps i).y, t]] := rfl
    rw [e] at m h
    have g1 := h _ List.mem_cons_self
    have g2 := h _ (List.mem_cons_of_mem _ List.mem_cons_self)
    simp only [List.headD_cons] at g1 g2
    show _ = dr ps d t i b
    unfold dr
    rw [T.sym t (pr ps i).x, T.sym t (pr ps i).y]
    rcases List.mem_cons.mp m with rfl | m
    · simp only [List.headD_cons] at g1 g2 ⊢; omega
    · rw [List.mem_singleton.mp m] at g1 g2 ⊢; simp only [List.headD_cons] at g1 g2 ⊢; omega
  · have nij : ¬ i = j := fun z => by subst z; simp [onePipe] at ne
    have e : trips ps d [i, b] [j, a] = [[b + d (pr ps i).x (pr ps j).x + a, (pr ps i).x, (pr ps j).x], [b + d (pr ps i).x (pr ps j).y + ((pr ps j).l - a), (pr ps i).x, (pr ps j).y],
      [(pr ps i).l - b + d (pr ps i).y (pr ps j).x + a, (pr ps i).y, (pr ps j).x], [(pr ps i).l - b + d (pr ps i).y (pr ps j).y + ((pr ps j).l - a), (pr ps i).y, (pr ps j).y]] := rfl
    rw [e] at m h
    have g1 := h _ List.mem_cons_self
    have g2 := h _ (List.mem_cons_of_mem _ List.mem_cons_self)
    have g3 := h _ (List.mem_cons_of_mem _ (List.mem_cons_of_mem _ List.mem_cons_self))
    have g4 := h _ (List.mem_cons_of_mem _ (List.mem_cons_of_mem _ (List.mem_cons_of_mem _ List.mem_cons_self)))
    simp only [List.headD_cons] at g1 g2 g3 g4
    show _ = (if i = j then ab b a else min (b + dr ps d (pr ps i).x j a) ((pr ps i).l - b + dr ps d (pr ps i).y j a))
    rw [if_neg nij]
    unfold dr
    rcases List.mem_cons.mp m with rfl | m
    · simp only [List.headD_cons] at g1 g2 g3 g4 ⊢; omega
    · rcases List.mem_cons.mp m with rfl | m
      · simp only [List.headD_cons] at g1 g2 g3 g4 ⊢; omega
      · rcases List.mem_cons.mp m with rfl | m
        · simp only [List.headD_cons] at g1 g2 g3 g4 ⊢; omega
        · rw [List.mem_singleton.mp m] at g1 g2 g3 g4 ⊢; simp only [List.headD_cons] at g1 g2 g3 g4 ⊢; omega
theorem one_pipe {n : Int} {ps : List Pi} {d : Int → Int → Int} {p q : Pl} (hp : okP n ps p) (hq : okP n ps q) (h : onePipe p q = true) : ∃ i a b, p = [i, a] ∧ q = [i, b] ∧ Dp ps d p q = ab a b := by
  rcases ok_cases hp with ⟨r, rfl, _⟩ | ⟨i, a, rfl, _⟩ <;> rcases ok_cases hq with ⟨t, rfl, _⟩ | ⟨j, b, rfl, _⟩
  · cases h
  · cases h
  · cases h
  · have e : i = j := by simpa [onePipe] using h
    subst e
    exact ⟨i, a, b, rfl, rfl, if_pos rfl⟩
theorem abs_ab (a b : Int) : (if a - b < 0 then -(a - b) else a - b) = ab a b := by unfold ab; split <;> split <;> omega
theorem ok_ne {n : Int} {ps : List Pi} {p : Pl} (h : okP n ps p) : p ≠ [] := by
  rcases ok_cases h with ⟨r, rfl, _⟩ | ⟨i, a, rfl, _⟩ <;> (intro z; cases z)
section
variable {P : Program} {w : World} {K : PySem.W.Frag} {mg : Str → Option Value} {base : Heap}
abbrev sGap : Stmt := topS 9
abbrev nGap : List Str := ["plan", "one", "other"]
theorem scGap : FnScope nGap ["plan", "one", "other"] (defScope sGap) := ⟨rfl, rfl, rfl, by decide +kernel, rfl, by decide +kernel, by decide +kernel⟩
def spGap (C : Addr) : Sp := fun vs H Q _ => ∃ (a : Addr) (o1 o2 : V) (n : Int) (ps : List Pi) (d : Int → Int → Int) (p q : Pl), vs = [.ref a, o1, o2] ∧ PlanAt C [] H a n ps d ∧ Tm n ps d ∧ Dt [] H o1 (tupI p) ∧ Dt [] H o2 (tupI q) ∧ okP n ps p ∧ okP n ps q ∧
  ∀ H' : Hp, Keep [] H H' → Q (.int (Dp ps d p q)) H'
theorem ok_gap {C : Addr} (h : Has K mg "gap_of" sGap) (B : Blt mg) (CO : Can P w K mg base "are_in_one_pipe" ["one", "other"] 1 spOnePipe) (CS : Can P w K mg base "shortest" ["plan", "one", "other"] 2 (spShort C)) : Can P w K mg base "gap_of" ["plan", "one", "other"] 3 (spGap C) := by
  obtain ⟨f, fd, F, g⟩ := h
  refine ⟨f, fd, F.ok (k := 2) scGap (fun vs H Q E h => ?_) (fun cdv A outer s H vs Q E hr h => ?_), g, F.kp, F.binds fun _ _ _ _ _ _ us hl => match us, hl with | [_, _, _], _ => rfl⟩
  · obtain ⟨a, o1, o2, n, ps, d, p, q, rfl, _⟩ := h
    rfl
  · obtain ⟨a, o1, o2, n, ps, d, p, q, rfl, pl, T, h1, h2, okp, okq, k⟩ := h
    refine ⟨_, pss_cons (ps_if (pt_val (pe_can CO (hr.mono (by decide)) (by rfl) (pa_cons (pv 1) (pa_cons (pv 2) pa_nil)))) (pss_one (ps_ret (pe_callB call_abs (by rfl) B.abs_ boot_abs (pa_cons (pe_op op_sub (pe_ix ix_tup (pv 1) pe_int (fun _ _ => rfl)) (pe_ix ix_tup (pv 2) pe_int (fun _ _ => rfl))) pa_nil)))) pss_nil)
      (pss_one (ps_ret (pe_ix ix_tup (pe_can CS (hr.mono (by decide)) (by rfl) (pa_cons (pv 0) (pa_cons (pv 1) (pa_cons (pv 2) pa_nil)))) pe_int (fun _ _ => rfl)))), ?_⟩
    refine ⟨o1, rfl, o2, rfl, o1, o2, p, q, rfl, h1, h2, ok_ne okp, ok_ne okq, _, rfl, ?_⟩
    cases c : onePipe p q with
    | true =>
      obtain ⟨i, x, y, rfl, rfl, e⟩ := one_pipe (d := d) okp okq c
      obtain ⟨a1, rfl, _, e1⟩ := tupI_at h1
      obtain ⟨a2, rfl, _, e2⟩ := tupI_at h2
      refine iteT ⟨.ref a1, rfl, a1, _, 1, .int x, rfl, rfl, SqT.of e1, atI_nat (j := 1) rfl, .ref a2, rfl, a2, _, 1, .int y, rfl, rfl, SqT.of e2, atI_nat (j := 1) rfl, x, y, rfl, rfl, x - y, rfl, ?_⟩
      rw [abs_ab, ← e]
      exact k H (Keep.refl _ _)
    | false =>
      refine iteF ⟨.ref a, rfl, o1, rfl, o2, rfl, a, o1, o2, n, ps, d, p, q, rfl, pl, T, h1, h2, okp, okq, fun H' v ns kH dv mn hm => ?_⟩
      obtain ⟨t, rfl, _, et⟩ := tupI_at dv
      have e := trips_min T okp okq c mn hm
      obtain ⟨x, xs, rfl⟩ : ∃ x xs, ns = x :: xs := by
        obtain ⟨e, _, h⟩ := List.mem_flatMap.mp mn
        obtain ⟨f', _, rfl⟩ := List.mem_map.mp h
        exact ⟨_, _, rfl⟩
      refine ⟨t, _, 0, .int x, rfl, rfl, SqT.of et, atI_nat (j := 0) rfl, ?_⟩
      have e' : x = Dp ps d p q := e
      rw [e']
      exact k H' kH
/-! a plan is made -/
theorem plan_made {C : Addr} {H : Hp} {h : V} {n : Int} {ps : List Pi} {d : Int → Int → Int} {av : List Addr} {R : VK} {x dx : Addr} (hh : Dt av H h (houseD n (ps.map Pi.dat))) (hk : HouseOk n ps) (T : Tm n ps d) (tr : Tr av H) (nx : H x = none) (ndx : H dx = none) (ne : dx ≠ x)
    (k : ∀ H' : Hp, Keep [] H H' → Tr av H' → PlanAt C av H' x n ps d → R .non H') : spInit C (.ref x :: ([h] ++ [])) (upd (upd H dx (.own x)) x (.ins C dx [])) R E0 := by
  have nx1 : (upd H dx (.own x)) x = none := by rw [upd_ne ne.symm]; exact nx
  have k0 : Keep [] H (upd (upd H dx (.own x)) x (.ins C dx [])) := (Keep.new ndx).trans (Keep.new nx1)
  refine ⟨x, dx, h, n, ps, d, av, rfl, upd_same, tr.not nx, (hh.more nx).keep k0.of, hk, T, (tr.upd).upd, fun H' kH tr' pl => k H' ?_ tr' pl⟩
  exact Keep.drop nx (fun b o e nb => kH b o (k0 b o e List.not_mem_nil) nb)
end
end Rw

namespace Rw
open PySem PySem.Spec PyProof.Rows L2
section
variable {P : Program} {w : World} {K : PySem.W.Frag} {mg : Str → Option Value} {base : Heap}
abbrev sDist : Stmt := topS 18
abbrev nDist : List Str := ["house", "one", "other"]
theorem scDist : FnScope nDist ["house", "one", "other"] (defScope sDist) := ⟨rfl, rfl, rfl, by decide +kernel, rfl, by decide +kernel, by decide +kernel⟩
def spDist : Sp := fun vs H Q _ => ∃ (h o1 o2 : V) (n : Int) (ps : List Pi) (d : Int → Int → Int) (p q : Pl), vs = [h, o1, o2] ∧ Dt [] H h (houseD n (ps.map Pi.dat)) ∧ HouseOk n ps ∧ Tm n ps d ∧ Dt [] H o1 (tupI p) ∧ Dt [] H o2 (tupI q) ∧ okP n ps p ∧ okP n ps q ∧
  ∀ H' : Hp, Keep [] H H' → Q (.int (Dp ps d p q)) H'
theorem ok_dist {C : Addr} (h : Has K mg "distance_of" sDist) (CP : CanMk P w K mg base "Plan" C ["self", "house"] 2 (spInit C)) (CG : Can P w K mg base "gap_of" ["plan", "one", "other"] 3 (spGap C)) : Can P w K mg base "distance_of" ["house", "one", "other"] 4 spDist := by
  obtain ⟨f, fd, F, g⟩ := h
  refine ⟨f, fd, F.ok (k := 3) scDist (fun vs H Q E h => ?_) (fun cdv A outer s H vs Q E hr h => ?_), g, F.kp, F.binds fun _ _ _ _ _ _ us hl => match us, hl with | [_, _, _], _ => rfl⟩
  · obtain ⟨h, o1, o2, n, ps, d, p, q, rfl, _⟩ := h
    rfl
  · obtain ⟨h, o1, o2, n, ps, d, p, q, rfl, hh, hk, T, h1, h2, okp, okq, k⟩ := h
    refine ⟨_, pss_one (ps_ret (pe_can CG (hr.mono (by decide)) (by rfl) (pa_cons (pe_mk CP (hr.mono (by decide)) (by rfl) (pa_cons (pv 0) pa_nil)) (pa_cons (pv 1) (pa_cons (pv 2) pa_nil))))), ?_⟩
    refine ⟨h, rfl, fun x dx nx ndx ne => plan_made (C := C) hh hk T (show Tr [] H from fun _ m => absurd m List.not_mem_nil) nx ndx ne (fun H1 k1 _ pl => ?_)⟩
    exact ⟨rfl, o1, rfl, o2, rfl, x, o1, o2, n, ps, d, p, q, rfl, pl, T, h1.keep k1, h2.keep k1, okp, okq, fun H2 k2 => k H2 (k1.trans k2)⟩
end
end Rw

namespace Rw
open PySem PySem.Spec PyProof.Rows L2
section
variable {P : Program} {w : World} {K : PySem.W.Frag} {mg : Str → Option Value} {base : Heap}
abbrev sPAt : Stmt := topS 4
abbrev nPAt : List Str := ["plan", "pipe", "at", "one", "other", "length"]
theorem scPAt : FnScope nPAt ["plan", "pipe", "at"] (defScope sPAt) := ⟨rfl, rfl, rfl, by decide +kernel, rfl, by decide +kernel, by decide +kernel⟩
def spPAt (C : Addr) : Sp := fun vs H Q _ => ∃ (a : Addr) (n i t : Int) (ps : List Pi) (d : Int → Int → Int) (av : List Addr), vs = [.ref a, .int i, .int t] ∧ PlanAt C [] H a n ps d ∧ 0 ≤ i ∧ i < ps.length ∧ Tr av H ∧
  ∀ (H' : Hp) (v : V), Keep [] H H' → Tr av H' → Dt av H' v (tupI (nm ps i t)) → Q v H'
theorem ok_pAt {C : Addr} (h : Has K mg "place_at" sPAt) (X : PlanTxt K C) : Can P w K mg base "place_at" ["plan", "pipe", "at"] 1 (spPAt C) := by
  obtain ⟨f, fd, F, g⟩ := h
  refine ⟨f, fd, F.ok (k := 0) scPAt (fun vs H Q E h => ?_) (fun cdv A outer s H vs Q E hr h => ?_), g, F.kp, F.binds fun _ _ _ _ _ _ us hl => match us, hl with | [_, _, _], _ => rfl⟩
  · obtain ⟨a, n, i, t, ps, d, av, rfl, _⟩ := h
    rfl
  · obtain ⟨a, n, i, t, ps, d, av, rfl, pl, h0, h1, tr, k⟩ := h
    refine ⟨_, pss_cons (ps_asg (pe_slice sl_tup (pe_ix ix_tup (pe_fld (pv 0) rfl) (pv 1) (fun _ _ => rfl)) po_none (po_some pe_int)) (pg_tup (by rfl) (pgs_cons (pg_name (i := 3) scPAt.nd rfl (by first | exact Or.inl rfl | exact Or.inr rfl)) (pgs_cons (pg_name (i := 4) scPAt.nd rfl (by first | exact Or.inl rfl | exact Or.inr rfl)) (pgs_cons (pg_name (i := 5) scPAt.nd rfl (by first | exact Or.inl rfl | exact Or.inr rfl)) pgs_nil)))))
      (pss_cons (ps_if (pt_cmpR op_eq (pv 2) pe_int (nomark _)) (pss_one (ps_ret (pe_tup (pa_cons (pv 3) pa_nil)))) pss_nil)
      (pss_cons (ps_if (pt_cmpR op_eq (pv 2) (pv 5) (nomark _)) (pss_one (ps_ret (pe_tup (pa_cons (pv 4) pa_nil)))) pss_nil)
      (pss_one (ps_ret (pe_tup (pa_cons (pv 1) (pa_cons (pv 2) pa_nil))))))), ?_⟩
    obtain ⟨dx, hb, pp, dl, gl, tl, xp, ds, gs, ws, a1', a2, a3, a4, a5, a6, a7, _⟩ := pl
    obtain ⟨p, pa, T1, T2, mp, gp, ga, epa⟩ := pi_at a7 h0 h1
    have epr : p = pr ps i := by
      have z := (pr_mem h0 h1).2
      rw [z] at gp; exact (Option.some.inj gp).symm
    subst epr
    refine ⟨.ref a, rfl, a, C, dx, _, .ref pp, rfl, a2, X.cl, X.nP, pf_pipes .., .int i, rfl, pp, xp, i, .ref pa, rfl, rfl, SqT.of a6, ga, 3, rfl, pa, [.int (pr ps i).x, .int (pr ps i).y, .int (pr ps i).l, .ref T1, .ref T2], rfl, SqT.of epa, show ¬ (HT.sIx 5 0 none = 0 ∧ HT.sIx 5 5 (some 3) = 5) by decide +kernel, fun T3 nT3 => ?_⟩
    rw [show cutV [V.int (pr ps i).x, .int (pr ps i).y, .int (pr ps i).l, .ref T1, .ref T2] none (some 3) = [.int (pr ps i).x, .int (pr ps i).y, .int (pr ps i).l] from cut_to _ 3]
    refine ⟨T3, [.int (pr ps i).x, .int (pr ps i).y, .int (pr ps i).l], rfl, SqT.of upd_same, rfl, _, _, rfl, _, _, rfl, _, [], rfl, rfl, ?_⟩
    have k1 : Keep [] H (upd H T3 (.tup [.int (pr ps i).x, .int (pr ps i).y, .int (pr ps i).l])) := Keep.new nT3
    have tr1 : Tr av (upd H T3 (.tup [.int (pr ps i).x, .int (pr ps i).y, .int (pr ps i).l])) := tr.upd
    generalize upd H T3 (.tup [.int (pr ps i).x, .int (pr ps i).y, .int (pr ps i).l]) = H1 at k1 tr1 ⊢
    refine ⟨.int t, rfl, rfl, _, rfl, ite2 (fun e => ?_) (fun e => ?_)⟩
    · have e0 : t = 0 := V.int.inj (of_decide_eq_true e)
      refine ⟨.int (pr ps i).x, rfl, show 1 ≤ sizeLine by decide, fun z nz => ?_⟩
      refine k _ _ (k1.trans (Keep.new nz)) tr1.upd ?_
      rw [e0, nm_0]
      exact .tup (tr1.not nz) upd_same (.cons (.int _) .nil)
    · have e0 : t ≠ 0 := fun z => e (decide_eq_true (by rw [z]))
      refine ⟨.int t, rfl, .int (pr ps i).l, rfl, rfl, _, rfl, ite2 (fun e1 => ?_) (fun e1 => ?_)⟩
      · have e2 : t = (pr ps i).l := V.int.inj (of_decide_eq_true e1)
        have en : nm ps i t = [(pr ps i).y] := by
          have l0 : (pr ps i).l ≠ 0 := by rw [← e2]; exact e0
          rw [e2, nm_l l0]
        refine ⟨.int (pr ps i).y, rfl, show 1 ≤ sizeLine by decide, fun z nz => ?_⟩
        refine k _ _ (k1.trans (Keep.new nz)) tr1.upd ?_
        rw [en]
        exact .tup (tr1.not nz) upd_same (.cons (.int _) .nil)
      · have e2 : t ≠ (pr ps i).l := fun z => e1 (decide_eq_true (by rw [z]))
        refine ⟨.int i, rfl, .int t, rfl, show 2 ≤ sizeLine by decide, fun z nz => ?_⟩
        refine k _ _ (k1.trans (Keep.new nz)) tr1.upd ?_
        rw [nm_mid e0 e2]
        exact .tup (tr1.not nz) upd_same (.cons (.int _) (.cons (.int _) .nil))
end
end Rw

namespace Rw
open PySem PySem.Spec PyProof.Rows L2
/-! ### sorted lists of places -/
def sortL (nss : List (List Int)) : List (List Int) := nss.mergeSort leI
theorem sortVI_snd (bs : List VI) : (sortVI bs).map (·.2) = sortL (bs.map (·.2)) := List.map_mergeSort (fun _ _ _ _ => rfl)
theorem zip_fst {us : List V} {nss : List (List Int)} (h : us.length = nss.length) : (us.zip nss).map (·.1) = us := List.map_fst_zip (Nat.le_of_eq h)
theorem zip_snd {us : List V} {nss : List (List Int)} (h : us.length = nss.length) : (us.zip nss).map (·.2) = nss := List.map_snd_zip (Nat.le_of_eq h.symm)
theorem zip_enc {us : List V} {nss : List (List Int)} (h : us.length = nss.length) : (us.zip nss).map encVI = nss.map tupI := by
  have e : (us.zip nss).map encVI = ((us.zip nss).map (·.2)).map tupI := by rw [List.map_map]; rfl
  rw [e, zip_snd h]
theorem dts_zip {av : List Addr} {H : Hp} : ∀ {us : List V} {nss : List (List Int)}, Dts av H us (nss.map tupI) → ∀ b ∈ us.zip nss, Dt av H b.1 (encVI b)
  | [], _, _, b, m => by simp at m
  | _ :: _, [], _, b, m => by simp at m
  | u :: us, n :: nss, h, b, m => by
    cases h with
    | cons h1 h2 =>
      rw [List.zip_cons_cons] at m
      rcases List.mem_cons.mp m with e | e
      · rw [e]; exact h1
      · exact dts_zip h2 b e
theorem dts_map {av : List Addr} {H : Hp} : ∀ {bs : List VI}, (∀ b ∈ bs, Dt av H b.1 (encVI b)) → Dts av H (bs.map (·.1)) (bs.map encVI)
  | [], _ => .nil
  | b :: bs, h => .cons (h b List.mem_cons_self) (dts_map fun c m => h c (List.mem_cons_of_mem _ m))
theorem dts_sort {av : List Addr} {H : Hp} {us : List V} {nss : List (List Int)} (h : Dts av H us (nss.map tupI)) : Dts av H ((sortVI (us.zip nss)).map (·.1)) ((sortL nss).map tupI) := by
  have l : us.length = nss.length := by have := h.len; rw [List.length_map] at this; exact this
  have z : Dts av H ((sortVI (us.zip nss)).map (·.1)) ((sortVI (us.zip nss)).map encVI) := dts_map fun b m => dts_zip h b (List.mem_mergeSort.mp m)
  have e : (sortVI (us.zip nss)).map encVI = (sortL nss).map tupI := by
    have e1 : (sortVI (us.zip nss)).map encVI = ((sortVI (us.zip nss)).map (·.2)).map tupI := by rw [List.map_map]; rfl
    rw [e1, sortVI_snd, zip_snd l]
  rw [e] at z
  exact z
def doorNext (ps : List Pi) (row : List Int) : Pl := nm ps (row.getD 0 0) (if row.getD 1 0 = 0 then 1 else row.getD 1 0 - 1)
def besideL (ps : List Pi) : Pl → List Pl
  | [r] => (doorsTo ps r ps.length).map (doorNext ps)
  | [i, a] => [nm ps i (a - 1), nm ps i (a + 1)]
  | _ => []
theorem nm_ne (ps : List Pi) (i t : Int) : nm ps i t ≠ [] := by
  unfold nm
  split
  · intro z; cases z
  · split <;> (intro z; cases z)
section
variable {P : Program} {w : World} {K : PySem.W.Frag} {mg : Str → Option Value} {base : Heap}
abbrev sPB : Stmt := topS 5
abbrev nPB : List Str := ["plan", "place", "doors", "door", "pipe", "at"]
theorem scPB : FnScope nPB ["plan", "place"] (defScope sPB) := ⟨rfl, rfl, rfl, by decide +kernel, rfl, by decide +kernel, by decide +kernel⟩
def spPB (C : Addr) : Sp := fun vs H Q _ => ∃ (a : Addr) (v : V) (n : Int) (ps : List Pi) (d : Int → Int → Int) (p : Pl) (av : List Addr), vs = [.ref a, v] ∧ PlanAt C [] H a n ps d ∧ HouseOk n ps ∧ Dt [] H v (tupI p) ∧ okP n ps p ∧ Tr av H ∧
  ∀ (H' : Hp) (T : Addr) (us : List V), Keep [] H H' → Tr av H' → T ∉ av → H' T = some (.tup us) → Dts av H' us ((sortL (besideL ps p)).map tupI) → Q (.ref T) H'
/-! the end of both ways: a list is sorted, and made a tuple -/
theorem ok_pB {C : Addr} (h : Has K mg "places_beside" sPB) (B : Blt mg) (X : PlanTxt K C) (CA : Can P w K mg base "place_at" ["plan", "pipe", "at"] 1 (spPAt C)) : Can P w K mg base "places_beside" ["plan", "place"] 2 (spPB C) := by
  obtain ⟨f, fd, F, g⟩ := h
  refine ⟨f, fd, F.ok (k := 1) scPB (fun vs H Q E h => ?_) (fun cdv A outer s H vs Q E hr h => ?_), g, F.kp, F.binds fun _ _ _ _ _ _ us hl => match us, hl with | [_, _], _ => rfl⟩
  · obtain ⟨a, v, n, ps, d, p, av, rfl, _⟩ := h
    rfl
  · obtain ⟨a, v, n, ps, d, p, av, rfl, pl, hk, hv, ok, tr, k⟩ := h
    refine ⟨_, pss_cons (ps_if (pt_cmpR op_eq (pe_callB call_len_seq (by rfl) B.len_ PySem.boot_len (pa_cons (pv 1) pa_nil)) pe_int (nomark _)) (pss_cons (ps_set (i := 2) scPB.nd rfl (by first | exact Or.inl rfl | exact Or.inr rfl) (pe_ix ix_list (pe_fld (pv 0) rfl) (pe_ix ix_tup (pv 1) pe_int (fun _ _ => rfl)) (fun _ _ => rfl)))
      (pss_one (ps_ret (pe_callTy call_tuple_of (by rfl) B.tuple_ boot_tuple (pa_cons (pe_callB (cr_sortVI (hu10 hr)) (by rfl) B.sorted_ boot_sorted (pa_cons (pe_lc (own := [("door", 3)]) (g := gName 3) (tt := tYes) rfl scPB.nd (pi_list (pv 2)) (blkOk_by (N := nPB) (sc := defScope sPB) (by decide +kernel)) (fun _ _ _ _ _ => (pg_name (i := 3) scPB.nd rfl (by first | exact Or.inl rfl | exact Or.inr rfl))) (fun _ _ _ _ _ => pts_nil) (fun _ _ _ _ _ => (pe_can CA (hr.mono (by decide)) (by rfl) (pa_cons (pv 0) (pa_cons (pe_ix (ix_tupK (K := K) rfl) (pv 3) pe_int (fun _ _ => rfl)) (pa_cons (pe_ifExp (pt_cmpR op_eq (pe_ix (ix_tupK (K := K) rfl) (pv 3) pe_int (fun _ _ => rfl)) pe_int (nomark _)) pe_int (pe_op op_sub (pe_ix (ix_tupK (K := K) rfl) (pv 3) pe_int (fun _ _ => rfl)) pe_int)) pa_nil)))))) pa_nil)) pa_nil))))) pss_nil)
      (pss_cons (ps_asg (pv 1) (pg_tup (by rfl) (pgs_cons (pg_name (i := 4) scPB.nd rfl (by first | exact Or.inl rfl | exact Or.inr rfl)) (pgs_cons (pg_name (i := 5) scPB.nd rfl (by first | exact Or.inl rfl | exact Or.inr rfl)) pgs_nil))))
      (pss_one (ps_ret (pe_callTy call_tuple_of (by rfl) B.tuple_ boot_tuple (pa_cons (pe_callB (cr_sortVI (hu10 hr)) (by rfl) B.sorted_ boot_sorted (pa_cons (pe_lst (pa_cons (pe_can CA (hr.mono (by decide)) (by rfl) (pa_cons (pv 0) (pa_cons (pv 4) (pa_cons (pe_op op_sub (pv 5) pe_int) pa_nil)))) (pa_cons (pe_can CA (hr.mono (by decide)) (by rfl) (pa_cons (pv 0) (pa_cons (pv 4) (pa_cons (pe_op op_add (pv 5) pe_int) pa_nil)))) pa_nil))) pa_nil)) pa_nil))))), ?_⟩
    obtain ⟨a1, rfl, _, e1⟩ := tupI_at hv
    have fin : ∀ (G : Hp) (W : Addr) (us : List V) (nss : List (List Int)), Keep [] H G → Tr av G → G W = some (.lst us) → Dts av G us (nss.map tupI) → (∀ y ∈ nss, y ≠ []) → nss.length ≤ 200 → nss = besideL ps p →
        rSortVI K [.ref W] G fun x H1 => ∃ q ys, [x] = [V.ref q] ∧ ((SqL K H1 q ys ∧ ∀ l, H1 l = none → Q (.ref l) (upd H1 l (.tup ys))) ∨ (SqT K H1 q ys ∧ Q (.ref q) H1)) := fun G W us nss kG tG eW du hn hl e => by
      have l : us.length = nss.length := by have := du.len; rw [List.length_map] at this; exact this
      refine ⟨W, us.zip nss, rfl, by rw [zip_fst l]; exact SqL.of eW, by rw [zip_fst l, zip_enc l]; exact Dts.dp _ _ du (lay_tups _), fun b m => hn b.2 (List.of_mem_zip m).2, by rw [List.length_zip]; omega, fun q nq => ?_⟩
      refine ⟨q, _, rfl, .inl ⟨SqL.of upd_same, fun T nT => ?_⟩⟩
      refine k _ T _ (kG.trans ((Keep.new nq).trans (Keep.new nT))) ((tG.upd).upd) ((tG.upd).not nT) upd_same ?_
      rw [← e]
      exact (dts_sort du).keep ((Keep.new nq).trans (Keep.new nT))
    rcases ok_cases ok with ⟨r, rfl, r0, r1⟩ | ⟨i, b, rfl, h0, h1, b0, b1⟩
    · refine ⟨.ref a1, rfl, a1, _, rfl, .inr (SqT.of e1), rfl, true, rfl, iteT ?_⟩
      obtain ⟨dx, hb, pp, dl, gl, tl, xp, ds, gs, ws, c1, c2, c3, c4, c5, c6, c7, c8, c9, d1, d2, d3, _⟩ := id pl
      obtain ⟨da, gda⟩ : ∃ da, ds[r.toNat]? = some da := ⟨_, List.getElem?_eq_getElem (by omega)⟩
      obtain ⟨ts, eda, dts, lts⟩ := d3 r.toNat da gda
      have er : ((r.toNat : Nat) : Int) = r := by omega
      have dts' : Dts [] H ts ((doorsTo ps r ps.length).map tupI) := by
        have z : Dts [] H ts ((doorsTo ps ((r.toNat : Nat) : Int) ps.length).map tupI) := dts
        rw [er] at z; exact z
      have tl2 : ts.length = (doorsTo ps r ps.length).length := by rw [dts'.len, List.length_map]
      refine ⟨.ref a, rfl, a, C, dx, _, .ref dl, rfl, c2, X.cl, X.nD, pf_doors .., .ref a1, rfl, a1, _, 0, .int r, rfl, rfl, SqT.of e1, atI_nat (j := 0) rfl, dl, _, r, .ref da, rfl, rfl, SqL.of c9, atI_of r0 (by rw [List.getElem?_map, gda]; rfl), ?_⟩
      refine ⟨.ref da, rfl, da, rfl, ⟨_, SqL.of eda⟩, fun W nW => ?_⟩
      refine lc_list (K := K) (a := da) (xs := ts) (fun j J => Keep [] H J ∧ Tr (W :: av) J ∧ ∃ us : List V, J W = some (.lst us) ∧ us.length = j ∧ Dts (W :: av) J us ((((doorsTo ps r ps.length).take j).map (doorNext ps)).map tupI))
        ⟨Keep.new nW, (tr.upd).cons upd_same, [], upd_same, rfl, .nil⟩ (fun j J _ p => SqL.of (p.1 da _ eda List.not_mem_nil)) (fun j x J hx p => ?_) (fun J p => ?_)
      · obtain ⟨kJ, tJ, us, eW, lu, du⟩ := p
        have jl : j < ts.length := (List.getElem?_eq_some_iff.mp hx).1
        obtain ⟨dd, gd, dx2⟩ := (dts'.keep kJ).getv j hx
        rw [List.getElem?_map] at gd
        obtain ⟨row, grow, rfl⟩ := Option.map_eq_some_iff.mp gd
        obtain ⟨i, il, hrow⟩ := mem_doors.mp (List.mem_of_getElem? grow)
        have pl1 := (hk.at il).1.fit.l1
        obtain ⟨at', z, far, rfl⟩ : ∃ at' z far : Int, row = [(i : Int), at', z, far] := by
          rcases hrow with ⟨_, h⟩ | ⟨_, h⟩ <;> exact ⟨_, _, _, h⟩
        obtain ⟨Td, rfl, _, eTd⟩ := tupI_at dx2
        have tk : (doorsTo ps r ps.length).take (j + 1) = (doorsTo ps r ps.length).take j ++ [[(i : Int), at', z, far]] := by rw [List.take_add_one, grow]; rfl
        have step : ∀ (t : Int), t = (if at' = 0 then 1 else at' - 1) → spPAt C ([.ref a, .int (i : Int), .int t] ++ []) J (fun y H4 => ∃ acc, H4 W = some (.lst acc) ∧ acc.length < sizeLine ∧ (Keep [] H (upd H4 W (.lst (acc ++ [y]))) ∧ Tr (W :: av) (upd H4 W (.lst (acc ++ [y]))) ∧ ∃ us : List V, (upd H4 W (.lst (acc ++ [y]))) W = some (.lst us) ∧ us.length = j + 1 ∧ Dts (W :: av) (upd H4 W (.lst (acc ++ [y]))) us ((((doorsTo ps r ps.length).take (j + 1)).map (doorNext ps)).map tupI))) E0 := fun t et => by
          refine ⟨a, n, (i : Int), t, ps, d, W :: av, rfl, pl.keep kJ, by omega, by omega, tJ, fun J2 v k2 tr2 dv => ?_⟩
          refine ⟨us, k2 W _ eW List.not_mem_nil, Nat.lt_of_lt_of_le (by omega : us.length < 1000) (small1000 (by omega)), (kJ.trans k2).upd nW, tr2.upd, us ++ [v], upd_same, by rw [List.length_append, lu]; rfl, ?_⟩
          rw [tk, List.map_append, List.map_append]
          have en : doorNext ps [(i : Int), at', z, far] = nm ps (i : Int) t := by rw [et]; rfl
          refine ((du.keep k2.of).app ?_).keep (Keep.put List.mem_cons_self)
          show Dts _ _ [v] [tupI (doorNext ps [(i : Int), at', z, far])]
          rw [en]
          exact .cons dv .nil
        refine ⟨rfl, .ref a, rfl, .ref Td, rfl, Td, _, 0, .int (i : Int), rfl, rfl, SqT.of eTd, atI_nat (j := 0) rfl, .ref Td, rfl, Td, _, 1, .int at', rfl, rfl, SqT.of eTd, atI_nat (j := 1) rfl, rfl, _, rfl, ite2 (fun e => ?_) (fun e => ?_)⟩
        · have e0 : at' = 0 := V.int.inj (of_decide_eq_true e)
          exact step 1 (by rw [if_pos e0])
        · have e0 : ¬ at' = 0 := fun z => e (decide_eq_true (by rw [z]))
          exact ⟨.ref Td, rfl, Td, _, 1, .int at', rfl, rfl, SqT.of eTd, atI_nat (j := 1) rfl, at', 1, rfl, rfl, step (at' - 1) (by rw [if_neg e0])⟩
      · obtain ⟨kJ, tJ, us, eW, lu, du⟩ := p
        rw [tl2, List.take_length] at du
        exact fin J W us (besideL ps [r]) kJ (fun z m => tJ z (List.mem_cons_of_mem _ m)) eW (du.less fun z m => List.mem_cons_of_mem _ m) (fun y hy => by
          obtain ⟨row, _, rfl⟩ := List.mem_map.mp (show y ∈ (doorsTo ps r ps.length).map (doorNext ps) from hy)
          exact nm_ne _ _ _) (by show ((doorsTo ps r ps.length).map (doorNext ps)).length ≤ 200; rw [List.length_map]; omega) rfl
    · refine ⟨.ref a1, rfl, a1, _, rfl, .inr (SqT.of e1), rfl, false, rfl, iteF ?_⟩
      refine ⟨.ref a1, rfl, a1, _, rfl, SqT.of e1, rfl, _, _, rfl, _, [], rfl, rfl, ?_⟩
      refine ⟨.ref a, rfl, .int i, rfl, .int b, rfl, b, 1, rfl, rfl, a, n, i, b - 1, ps, d, av, rfl, pl, h0, h1, tr, fun H1 v1 k1 t1 dv1 => ?_⟩
      refine ⟨.ref a, rfl, .int i, rfl, .int b, rfl, b, 1, rfl, rfl, a, n, i, b + 1, ps, d, av, rfl, pl.keep k1, h0, h1, t1, fun H2 v2 k2 t2 dv2 => ?_⟩
      refine ⟨show 2 ≤ sizeLine by decide, fun W nW => ?_⟩
      exact fin _ W [v1, v2] [nm ps i (b - 1), nm ps i (b + 1)] (k1.trans (k2.trans (Keep.new nW))) t2.upd upd_same (.cons ((dv1.keep k2.of).keep (Keep.new nW)) (.cons (dv2.keep (Keep.new nW)) .nil)) (fun y hy => by
        rcases List.mem_cons.mp hy with rfl | hy
        · exact nm_ne _ _ _
        · rw [List.mem_singleton.mp hy]; exact nm_ne _ _ _) (by show 2 ≤ 200; decide) rfl
end
end Rw

namespace Rw
open PySem PySem.Spec PyProof.Rows L2
section
variable {P : Program} {w : World} {K : PySem.W.Frag} {mg : Str → Option Value} {base : Heap}
abbrev sOnR : Stmt := topS 10
abbrev nOnR : List Str := ["plan", "one", "other", "place"]
theorem scOnR : FnScope nOnR ["plan", "one", "other", "place"] (defScope sOnR) := ⟨rfl, rfl, rfl, by decide +kernel, rfl, by decide +kernel, by decide +kernel⟩
def btwB (ps : List Pi) (d : Int → Int → Int) (p q z : Pl) : Bool := decide (Dp ps d p z + Dp ps d z q = Dp ps d p q)
def spOnR (C : Addr) : Sp := fun vs H Q _ => ∃ (a : Addr) (o1 o2 o3 : V) (n : Int) (ps : List Pi) (d : Int → Int → Int) (p q z : Pl), vs = [.ref a, o1, o2, o3] ∧ PlanAt C [] H a n ps d ∧ Tm n ps d ∧ Dt [] H o1 (tupI p) ∧ Dt [] H o2 (tupI q) ∧ Dt [] H o3 (tupI z) ∧ okP n ps p ∧ okP n ps q ∧ okP n ps z ∧
  ∀ H' : Hp, Keep [] H H' → Q (.bl (btwB ps d p q z)) H'
theorem ok_onR {C : Addr} (h : Has K mg "is_on_row" sOnR) (CG : Can P w K mg base "gap_of" ["plan", "one", "other"] 3 (spGap C)) : Can P w K mg base "is_on_row" ["plan", "one", "other", "place"] 4 (spOnR C) := by
  obtain ⟨f, fd, F, g⟩ := h
  refine ⟨f, fd, F.ok (k := 3) scOnR (fun vs H Q E h => ?_) (fun cdv A outer s H vs Q E hr h => ?_), g, F.kp, F.binds fun _ _ _ _ _ _ us hl => match us, hl with | [_, _, _, _], _ => rfl⟩
  · obtain ⟨a, o1, o2, o3, n, ps, d, p, q, z, rfl, _⟩ := h
    rfl
  · obtain ⟨a, o1, o2, o3, n, ps, d, p, q, z, rfl, pl, T, h1, h2, h3, okp, okq, okz, k⟩ := h
    refine ⟨_, pss_one (ps_ret (pe_cmpR op_eq (pe_op op_add (pe_can CG (hr.mono (by decide)) (by rfl) (pa_cons (pv 0) (pa_cons (pv 1) (pa_cons (pv 3) pa_nil)))) (pe_can CG (hr.mono (by decide)) (by rfl) (pa_cons (pv 0) (pa_cons (pv 3) (pa_cons (pv 2) pa_nil))))) (pe_can CG (hr.mono (by decide)) (by rfl) (pa_cons (pv 0) (pa_cons (pv 1) (pa_cons (pv 2) pa_nil)))) (nomark _))), ?_⟩
    refine ⟨.ref a, rfl, o1, rfl, o3, rfl, a, o1, o3, n, ps, d, p, z, rfl, pl, T, h1, h3, okp, okz, fun H1 k1 => ?_⟩
    refine ⟨.ref a, rfl, o3, rfl, o2, rfl, a, o3, o2, n, ps, d, z, q, rfl, pl.keep k1, T, h3.keep k1, h2.keep k1, okz, okq, fun H2 k2 => ?_⟩
    have k12 := k1.trans k2
    refine ⟨_, _, rfl, rfl, .ref a, rfl, o1, rfl, o2, rfl, a, o1, o2, n, ps, d, p, q, rfl, pl.keep k12, T, h1.keep k12, h2.keep k12, okp, okq, fun H3 k3 => ⟨rfl, ?_⟩⟩
    have e : decide (V.int (Dp ps d p z + Dp ps d z q) = V.int (Dp ps d p q)) = btwB ps d p q z := decide_eq_decide.mpr ⟨fun y => V.int.inj y, fun y => congrArg V.int y⟩
    have kk := k H3 (k12.trans k3)
    rw [← e] at kk
    exact kk
abbrev sNxt : Stmt := topS 20
abbrev nNxt : List Str := ["house", "place"]
theorem scNxt : FnScope nNxt ["house", "place"] (defScope sNxt) := ⟨rfl, rfl, rfl, by decide +kernel, rfl, by decide +kernel, by decide +kernel⟩
def spNxt : Sp := fun vs H Q _ => ∃ (h v : V) (n : Int) (ps : List Pi) (d : Int → Int → Int) (p : Pl) (av : List Addr), vs = [h, v] ∧ Dt av H h (houseD n (ps.map Pi.dat)) ∧ HouseOk n ps ∧ Tm n ps d ∧ Dt [] H v (tupI p) ∧ okP n ps p ∧ Tr av H ∧
  ∀ (H' : Hp) (T : Addr) (us : List V), Keep [] H H' → Tr av H' → T ∉ av → H' T = some (.tup us) → Dts av H' us ((sortL (besideL ps p)).map tupI) → Q (.ref T) H'
theorem ok_nxt {C : Addr} (h : Has K mg "next_to" sNxt) (CP : CanMk P w K mg base "Plan" C ["self", "house"] 2 (spInit C)) (CB : Can P w K mg base "places_beside" ["plan", "place"] 2 (spPB C)) : Can P w K mg base "next_to" ["house", "place"] 4 spNxt := by
  obtain ⟨f, fd, F, g⟩ := h
  refine ⟨f, fd, F.ok (k := 3) scNxt (fun vs H Q E h => ?_) (fun cdv A outer s H vs Q E hr h => ?_), g, F.kp, F.binds fun _ _ _ _ _ _ us hl => match us, hl with | [_, _], _ => rfl⟩
  · obtain ⟨h, v, n, ps, d, p, av, rfl, _⟩ := h
    rfl
  · obtain ⟨h, v, n, ps, d, p, av, rfl, hh, hk, T, hv, ok, tr, k⟩ := h
    refine ⟨_, pss_one (ps_ret (pe_can CB (hr.mono (by decide)) (by rfl) (pa_cons (pe_mk CP (hr.mono (by decide)) (by rfl) (pa_cons (pv 0) pa_nil)) (pa_cons (pv 1) pa_nil)))), ?_⟩
    refine ⟨h, rfl, fun x dx nx ndx ne => plan_made (C := C) hh hk T tr nx ndx ne (fun H1 k1 t1 pl => ?_)⟩
    exact ⟨rfl, v, rfl, x, v, n, ps, d, p, av, rfl, pl.less (fun _ m => nomatch m), hk, hv.keep k1, ok, t1, fun H2 T2 us k2 => k H2 T2 us (k1.trans k2)⟩
abbrev sBtw : Stmt := topS 21
abbrev nBtw : List Str := ["house", "one", "other", "place"]
theorem scBtw : FnScope nBtw ["house", "one", "other", "place"] (defScope sBtw) := ⟨rfl, rfl, rfl, by decide +kernel, rfl, by decide +kernel, by decide +kernel⟩
def spBtw : Sp := fun vs H Q _ => ∃ (h o1 o2 o3 : V) (n : Int) (ps : List Pi) (d : Int → Int → Int) (p q z : Pl), vs = [h, o1, o2, o3] ∧ Dt [] H h (houseD n (ps.map Pi.dat)) ∧ HouseOk n ps ∧ Tm n ps d ∧ Dt [] H o1 (tupI p) ∧ Dt [] H o2 (tupI q) ∧ Dt [] H o3 (tupI z) ∧ okP n ps p ∧ okP n ps q ∧ okP n ps z ∧
  ∀ H' : Hp, Keep [] H H' → Q (.bl (btwB ps d p q z)) H'
theorem ok_btw {C : Addr} (h : Has K mg "is_between" sBtw) (CP : CanMk P w K mg base "Plan" C ["self", "house"] 2 (spInit C)) (CR : Can P w K mg base "is_on_row" ["plan", "one", "other", "place"] 4 (spOnR C)) : Can P w K mg base "is_between" ["house", "one", "other", "place"] 5 spBtw := by
  obtain ⟨f, fd, F, g⟩ := h
  refine ⟨f, fd, F.ok (k := 4) scBtw (fun vs H Q E h => ?_) (fun cdv A outer s H vs Q E hr h => ?_), g, F.kp, F.binds fun _ _ _ _ _ _ us hl => match us, hl with | [_, _, _, _], _ => rfl⟩
  · obtain ⟨h, o1, o2, o3, n, ps, d, p, q, z, rfl, _⟩ := h
    rfl
  · obtain ⟨h, o1, o2, o3, n, ps, d, p, q, z, rfl, hh, hk, T, h1, h2, h3, okp, okq, okz, k⟩ := h
    refine ⟨_, pss_one (ps_ret (pe_can CR (hr.mono (by decide)) (by rfl) (pa_cons (pe_mk CP (hr.mono (by decide)) (by rfl) (pa_cons (pv 0) pa_nil)) (pa_cons (pv 1) (pa_cons (pv 2) (pa_cons (pv 3) pa_nil)))))), ?_⟩
    refine ⟨h, rfl, fun x dx nx ndx ne => plan_made (C := C) hh hk T (show Tr [] H from fun _ m => absurd m List.not_mem_nil) nx ndx ne (fun H1 k1 _ pl => ?_)⟩
    exact ⟨rfl, o1, rfl, o2, rfl, o3, rfl, x, o1, o2, o3, n, ps, d, p, q, z, rfl, pl, T, h1.keep k1, h2.keep k1, h3.keep k1, okp, okq, okz, fun H2 k2 => k H2 (k1.trans k2)⟩
end
end Rw

namespace Rw
open PySem PySem.Spec PyProof.Rows L2
section
variable {P : Program} {w : World} {K : PySem.W.Frag} {mg : Str → Option Value} {base : Heap}
abbrev sRAt : Stmt := topS 11
abbrev nRAt : List Str := ["plan", "pipe", "room"]
theorem scRAt : FnScope nRAt ["plan", "pipe", "room"] (defScope sRAt) := ⟨rfl, rfl, rfl, by decide +kernel, rfl, by decide +kernel, by decide +kernel⟩
def roomAt (ps : List Pi) (i r : Int) : Int := if (pr ps i).x = r then 0 else (pr ps i).l
def spRAt (C : Addr) : Sp := fun vs H Q _ => ∃ (a : Addr) (n i r : Int) (ps : List Pi) (d : Int → Int → Int), vs = [.ref a, .int i, .int r] ∧ PlanAt C [] H a n ps d ∧ 0 ≤ i ∧ i < ps.length ∧ Q (.int (roomAt ps i r)) H
theorem ok_rAt {C : Addr} (h : Has K mg "room_at" sRAt) (X : PlanTxt K C) : Can P w K mg base "room_at" ["plan", "pipe", "room"] 1 (spRAt C) := by
  obtain ⟨f, fd, F, g⟩ := h
  refine ⟨f, fd, F.ok (k := 0) scRAt (fun vs H Q E h => ?_) (fun cdv A outer s H vs Q E hr h => ?_), g, F.kp, F.binds fun _ _ _ _ _ _ us hl => match us, hl with | [_, _, _], _ => rfl⟩
  · obtain ⟨a, n, i, r, ps, d, rfl, _⟩ := h
    rfl
  · obtain ⟨a, n, i, r, ps, d, rfl, pl, h0, h1, k⟩ := h
    refine ⟨_, pss_one (ps_ret (pe_ifExp (pt_cmpR op_eq (pe_ix ix_tup (pe_ix ix_tup (pe_fld (pv 0) rfl) (pv 1) (fun _ _ => rfl)) pe_int (fun _ _ => rfl)) (pv 2) (nomark _)) pe_int (pe_ix ix_tup (pe_ix ix_tup (pe_fld (pv 0) rfl) (pv 1) (fun _ _ => rfl)) pe_int (fun _ _ => rfl)))), ?_⟩
    obtain ⟨dx, hb, pp, dl, gl, tl, xp, ds, gs, ws, a1', a2, a3, a4, a5, a6, a7, _⟩ := pl
    obtain ⟨p, pa, T1, T2, mp, gp, ga, epa⟩ := pi_at a7 h0 h1
    have epr : p = pr ps i := by
      have z := (pr_mem h0 h1).2
      rw [z] at gp; exact (Option.some.inj gp).symm
    subst epr
    refine ⟨.ref a, rfl, a, C, dx, _, .ref pp, rfl, a2, X.cl, X.nP, pf_pipes .., .int i, rfl, pp, xp, i, .ref pa, rfl, rfl, SqT.of a6, ga, pa, _, 0, .int (pr ps i).x, rfl, rfl, SqT.of epa, atI_nat (j := 0) rfl, .int r, rfl, rfl, _, rfl, ite2 (fun e => ?_) (fun e => ?_)⟩
    · have e0 : (pr ps i).x = r := V.int.inj (of_decide_eq_true e)
      unfold roomAt at k
      rw [if_pos e0] at k
      exact k
    · have e0 : ¬ (pr ps i).x = r := fun z => e (decide_eq_true (by rw [z]))
      unfold roomAt at k
      rw [if_neg e0] at k
      exact ⟨.ref a, rfl, a, C, dx, _, .ref pp, rfl, a2, X.cl, X.nP, pf_pipes .., .int i, rfl, pp, xp, i, .ref pa, rfl, rfl, SqT.of a6, ga, pa, _, 2, .int (pr ps i).l, rfl, rfl, SqT.of epa, atI_nat (j := 2) rfl, k⟩
abbrev sLen : Stmt := topS 13
abbrev nLen : List Str := ["piece"]
theorem scLen : FnScope nLen ["piece"] (defScope sLen) := ⟨rfl, rfl, rfl, by decide +kernel, rfl, by decide +kernel, by decide +kernel⟩
def spLen : Sp := fun vs H Q _ => ∃ (t : Addr) (i b e : Int), vs = [.ref t] ∧ H t = some (.tup [.int i, .int b, .int e]) ∧ Q (.int (plen [i, b, e])) H
theorem ok_len (h : Has K mg "length_of" sLen) (B : Blt mg) : Can P w K mg base "length_of" ["piece"] 1 spLen := by
  obtain ⟨f, fd, F, g⟩ := h
  refine ⟨f, fd, F.ok (k := 0) scLen (fun vs H Q E h => ?_) (fun cdv A outer s H vs Q E hr h => ?_), g, F.kp, F.binds fun _ _ _ _ _ _ us hl => match us, hl with | [_], _ => rfl⟩
  · obtain ⟨t, i, b, e, rfl, _⟩ := h
    rfl
  · obtain ⟨t, i, b, e, rfl, et, k⟩ := h
    refine ⟨_, pss_one (ps_ret (pe_callB call_abs (by rfl) B.abs_ boot_abs (pa_cons (pe_op op_sub (pe_ix ix_tup (pv 0) pe_int (fun _ _ => rfl)) (pe_ix ix_tup (pv 0) pe_int (fun _ _ => rfl))) pa_nil))), ?_⟩
    refine ⟨.ref t, rfl, t, _, 2, .int e, rfl, rfl, SqT.of et, atI_nat (j := 2) rfl, .ref t, rfl, t, _, 1, .int b, rfl, rfl, SqT.of et, atI_nat (j := 1) rfl, e, b, rfl, rfl, e - b, rfl, ?_⟩
    have z : (if e - b < 0 then -(e - b) else e - b) = plen [i, b, e] := by
      show _ = ab b e
      unfold ab; split <;> split <;> omega
    rw [z]; exact k
abbrev sAl : Stmt := topS 14
abbrev nAl : List Str := ["piece", "steps", "pipe", "begin", "stop"]
theorem scAl : FnScope nAl ["piece", "steps"] (defScope sAl) := ⟨rfl, rfl, rfl, by decide +kernel, rfl, by decide +kernel, by decide +kernel⟩
def spAl : Sp := fun vs H Q _ => ∃ (t : Addr) (i b e k : Int), vs = [.ref t, .int k] ∧ H t = some (.tup [.int i, .int b, .int e]) ∧ Q (.int (pat [i, b, e] k)) H
theorem ok_al (h : Has K mg "at_along" sAl) : Can P w K mg base "at_along" ["piece", "steps"] 1 spAl := by
  obtain ⟨f, fd, F, g⟩ := h
  refine ⟨f, fd, F.ok (k := 0) scAl (fun vs H Q E h => ?_) (fun cdv A outer s H vs Q E hr h => ?_), g, F.kp, F.binds fun _ _ _ _ _ _ us hl => match us, hl with | [_, _], _ => rfl⟩
  · obtain ⟨t, i, b, e, k, rfl, _⟩ := h
    rfl
  · obtain ⟨t, i, b, e, k, rfl, et, q⟩ := h
    refine ⟨_, pss_cons (ps_asg (pv 0) (pg_tup (by rfl) (pgs_cons (pg_name (i := 2) scAl.nd rfl (by first | exact Or.inl rfl | exact Or.inr rfl)) (pgs_cons (pg_name (i := 3) scAl.nd rfl (by first | exact Or.inl rfl | exact Or.inr rfl)) (pgs_cons (pg_name (i := 4) scAl.nd rfl (by first | exact Or.inl rfl | exact Or.inr rfl)) pgs_nil)))))
      (pss_one (ps_ret (pe_ifExp (pt_cmpR op_lt (pv 3) (pv 4) (nomark _)) (pe_op op_add (pv 3) (pv 1)) (pe_op op_sub (pv 3) (pv 1))))), ?_⟩
    refine ⟨.ref t, rfl, t, _, rfl, SqT.of et, rfl, _, _, rfl, _, _, rfl, _, [], rfl, rfl, ?_⟩
    have ep : pat [i, b, e] k = if b < e then b + k else b - k := rfl
    rw [ep] at q
    refine ⟨.int b, rfl, .int e, rfl, b, e, rfl, rfl, _, rfl, ite2 (fun c => ?_) (fun c => ?_)⟩
    · rw [if_pos (of_decide_eq_true c)] at q
      exact ⟨.int b, rfl, .int k, rfl, b, k, rfl, rfl, q⟩
    · rw [if_neg (fun z => c (decide_eq_true z))] at q
      exact ⟨.int b, rfl, .int k, rfl, b, k, rfl, rfl, q⟩
abbrev sPAl : Stmt := topS 15
abbrev nPAl : List Str := ["plan", "pieces", "steps", "left", "piece"]
theorem scPAl : FnScope nPAl ["plan", "pieces", "steps"] (defScope sPAl) := ⟨rfl, rfl, rfl, by decide +kernel, rfl, by decide +kernel, by decide +kernel⟩
theorem cut_last (xs : List V) (x : V) : cutV (xs ++ [x]) none (some (-1)) = xs := by
  unfold cutV
  have e1 : HT.sIx (xs ++ [x]).length 0 none = 0 := HT.sIx_none _ _
  have e2 : HT.sIx (xs ++ [x]).length (xs ++ [x]).length (some (-1)) = xs.length := by
    rw [List.length_append, List.length_singleton]
    unfold HT.sIx
    simp
    omega
  rw [e1, e2, List.drop_zero, Nat.sub_zero, List.take_left]
def spPAl (C : Addr) : Sp := fun vs H Q _ => ∃ (a l : Addr) (n k : Int) (ps : List Pi) (d : Int → Int → Int) (us : List V) (pcs : List (List Int)) (av : List Addr), vs = [.ref a, .ref l, .int k] ∧ PlanAt C [] H a n ps d ∧ H l = some (.lst us) ∧ Dts [] H us (pcs.map tupI) ∧ pcs ≠ [] ∧ pcs.length ≤ 1000 ∧ (∀ c ∈ pcs, PcOk ps c) ∧ Tr av H ∧
  ∀ (H' : Hp) (v : V), Keep [] H H' → Tr av H' → Dt av H' v (tupI (along ps pcs k)) → Q v H'
theorem along_cons {ps : List Pi} {c : List Int} {r : List (List Int)} (h : r ≠ []) (k : Int) : along ps (c :: r) k = if k ≤ plen c then nm ps (c.getD 0 0) (pat c k) else along ps r (k - plen c) := by
  cases r with
  | nil => exact absurd rfl h
  | cons _ _ => rfl
theorem ok_pAl {C : Addr} (h : Has K mg "place_along" sPAl) (CL : Can P w K mg base "length_of" ["piece"] 1 spLen) (CT : Can P w K mg base "at_along" ["piece", "steps"] 1 spAl) (CA : Can P w K mg base "place_at" ["plan", "pipe", "at"] 1 (spPAt C)) : Can P w K mg base "place_along" ["plan", "pieces", "steps"] 2 (spPAl C) := by
  obtain ⟨f, fd, F, g⟩ := h
  refine ⟨f, fd, F.ok (k := 1) scPAl (fun vs H Q E h => ?_) (fun cdv A outer s H vs Q E hr h => ?_), g, F.kp, F.binds fun _ _ _ _ _ _ us hl => match us, hl with | [_, _, _], _ => rfl⟩
  · obtain ⟨a, l, n, k, ps, d, us, pcs, av, rfl, _⟩ := h
    rfl
  · obtain ⟨a, l, n, k, ps, d, us, pcs, av, rfl, pl, el, du, hne, hlen, hok, tr, q⟩ := h
    refine ⟨_, pss_cons (ps_set (i := 3) scPAl.nd rfl (by first | exact Or.inl rfl | exact Or.inr rfl) (pv 2))
      (pss_cons (ps_for PassesOwn.never rfl (pi_list (pe_slice sl_list (pv 1) po_none (po_some (pe_un un_neg pe_int)))) (pg_name (i := 4) scPAl.nd rfl (by first | exact Or.inl rfl | exact Or.inr rfl))
      (pss_cons (ps_if (pt_cmpR op_le (pv 3) (pe_can CL (hr.mono (by decide)) (by rfl) (pa_cons (pv 4) pa_nil)) (nomark _)) (pss_one (ps_ret (pe_can CA (hr.mono (by decide)) (by rfl) (pa_cons (pv 0) (pa_cons (pe_ix ix_tup (pv 4) pe_int (fun _ _ => rfl)) (pa_cons (pe_can CT (hr.mono (by decide)) (by rfl) (pa_cons (pv 4) (pa_cons (pv 3) pa_nil))) pa_nil)))))) pss_nil)
      (pss_one (ps_aug (i := 3) scPAl.nd rfl (by first | exact Or.inl rfl | exact Or.inr rfl) (pe_can CL (hr.mono (by decide)) (by rfl) (pa_cons (pv 4) pa_nil)) ip_sub))))
      (pss_one (ps_ret (pe_can CA (hr.mono (by decide)) (by rfl) (pa_cons (pv 0) (pa_cons (pe_ix ix_tup (pe_ix ix_list (pv 1) (pe_un un_neg pe_int) (fun _ _ => rfl)) pe_int (fun _ _ => rfl)) (pa_cons (pe_can CT (hr.mono (by decide)) (by rfl) (pa_cons (pe_ix ix_list (pv 1) (pe_un un_neg pe_int) (fun _ _ => rfl)) (pa_cons (pv 3) pa_nil))) pa_nil))))))), ?_⟩
    obtain ⟨pre, lastc, epc⟩ : ∃ pre lastc, pcs = pre ++ [lastc] := ⟨pcs.dropLast, pcs.getLast hne, (List.dropLast_concat_getLast hne).symm⟩
    have lu : us.length = pcs.length := by rw [du.len, List.length_map]
    obtain ⟨ups, ul, eus⟩ : ∃ ups ul, us = ups ++ [ul] := by
      have z : us ≠ [] := fun z => by rw [z, epc] at lu; simp at lu
      exact ⟨us.dropLast, us.getLast z, (List.dropLast_concat_getLast z).symm⟩
    subst epc eus
    have lp : ups.length = pre.length := by rw [List.length_append, List.length_append] at lu; simpa using lu
    refine ⟨.int k, rfl, ?_⟩
    refine ⟨.ref l, rfl, 1, rfl, -1, rfl, l, _, rfl, SqL.of el, fun S nS => ?_⟩
    rw [cut_last]
    have kS : Keep [] H (upd H S (.lst ups)) := Keep.new nS
    have eS : (upd H S (.lst ups)) S = some (.lst ups) := upd_same
    have trS : Tr av (upd H S (.lst ups)) := tr.upd
    generalize upd H S (.lst ups) = G0 at kS eS trS ⊢
    have piece : ∀ (G : Hp) (j : Nat) (x : V), Keep [] H G → (ups ++ [ul])[j]? = some x → ∃ (i b e : Int) (t : Addr), (pre ++ [lastc])[j]? = some [i, b, e] ∧ x = .ref t ∧ G t = some (.tup [.int i, .int b, .int e]) ∧ 0 ≤ i ∧ i < ps.length := fun G j x kG hx => by
      obtain ⟨dd, gd, dx⟩ := (du.keep kG).getv j hx
      rw [List.getElem?_map] at gd
      obtain ⟨c, gc, rfl⟩ := Option.map_eq_some_iff.mp gd
      obtain ⟨i, b, e, rfl, h0, h1, _⟩ := hok c (List.mem_of_getElem? gc)
      obtain ⟨t, rfl, _, et⟩ := tupI_at dx
      exact ⟨i, b, e, t, gc, rfl, et, h0, h1⟩
    refine ⟨S, rfl, ⟨_, SqL.of eS⟩, for_list (K := K) (a := S) (xs := ups) (fun j σ J => ∃ (left : Int) (s4 : Option V), σ = [some (.ref a), some (.ref l), some (.int k), some (.int left), s4] ∧ Keep [] G0 J ∧ Tr av J ∧ along ps (pre ++ [lastc]) k = along ps ((pre ++ [lastc]).drop j) left) ⟨k, _, rfl, Keep.refl _ _, trS, by rw [List.drop_zero]⟩ (fun j σ J _ p => ?_) (fun j x σ J hx p => ?_) (fun σ J p => ?_)⟩
    · obtain ⟨_, _, _, kJ, _⟩ := p
      exact SqL.of (kJ S _ eS List.not_mem_nil)
    · obtain ⟨left, s4, rfl, kJ, tJ, ea⟩ := p
      have jl : j < ups.length := (List.getElem?_eq_some_iff.mp hx).1
      have hx' : (ups ++ [ul])[j]? = some x := by rw [List.getElem?_append_left jl]; exact hx
      obtain ⟨i, b, e, t, gc, rfl, et, h0, h1⟩ := piece J j x (kS.trans kJ) hx'
      have dj : (pre ++ [lastc]).drop j = [i, b, e] :: (pre ++ [lastc]).drop (j + 1) := by
        obtain ⟨hj, ej⟩ := List.getElem?_eq_some_iff.mp gc
        rw [List.drop_eq_getElem_cons hj, ej]
      have rest : (pre ++ [lastc]).drop (j + 1) ≠ [] := fun z => by
        have z2 := congrArg List.length z
        rw [List.length_drop, List.length_append, List.length_singleton] at z2
        simp at z2; omega
      rw [dj, along_cons rest] at ea
      refine ⟨.int left, rfl, .ref t, rfl, t, i, b, e, rfl, et, left, plen [i, b, e], rfl, rfl, _, rfl, ite2 (fun c => ?_) (fun c => ?_)⟩
      · rw [if_pos (of_decide_eq_true c)] at ea
        refine ⟨.ref a, rfl, .ref t, rfl, t, _, 0, .int i, rfl, rfl, SqT.of et, atI_nat (j := 0) rfl, .ref t, rfl, .int left, rfl, t, i, b, e, left, rfl, et, a, n, i, pat [i, b, e] left, ps, d, av, rfl, pl.keep (kS.trans kJ), h0, h1, tJ, fun J2 v k2 t2 dv => ?_⟩
        refine q J2 v ((kS.trans kJ).trans k2) t2 ?_
        rw [ea]; exact dv
      · rw [if_neg (fun z => c (decide_eq_true z))] at ea
        refine ⟨.int left, rfl, .ref t, rfl, t, i, b, e, rfl, et, left, plen [i, b, e], rfl, rfl, ?_⟩
        exact ⟨left - plen [i, b, e], _, rfl, kJ, tJ, ea⟩
    · obtain ⟨left, s4, rfl, kJ, tJ, ea⟩ := p
      have hx' : (ups ++ [ul])[ups.length]? = some ul := by rw [List.getElem?_append_right (Nat.le_refl _), Nat.sub_self]; rfl
      obtain ⟨i, b, e, t, gc, rfl, et, h0, h1⟩ := piece J ups.length ul (kS.trans kJ) hx'
      have ec : lastc = [i, b, e] := by
        rw [lp, List.getElem?_append_right (Nat.le_refl _), Nat.sub_self] at gc
        exact Option.some.inj gc
      have dj : (pre ++ [lastc]).drop ups.length = [[i, b, e]] := by
        rw [lp, List.drop_left, ec]
      rw [dj] at ea
      have ea' : along ps (pre ++ [lastc]) k = nm ps i (pat [i, b, e] left) := ea
      have elJ := (kS.trans kJ) l _ el List.not_mem_nil
      refine ⟨.ref a, rfl, .ref l, rfl, 1, rfl, l, _, -1, .ref t, rfl, rfl, SqL.of elJ, atI_last ups _, t, _, 0, .int i, rfl, rfl, SqT.of et, atI_nat (j := 0) rfl, .ref l, rfl, 1, rfl, l, _, -1, .ref t, rfl, rfl, SqL.of elJ, atI_last ups _, .int left, rfl, t, i, b, e, left, rfl, et, a, n, i, pat [i, b, e] left, ps, d, av, rfl, pl.keep (kS.trans kJ), h0, h1, tJ, fun J2 v k2 t2 dv => ?_⟩
      refine q J2 v ((kS.trans kJ).trans k2) t2 ?_
      rw [ea']; exact dv
end
end Rw

namespace Rw
open PySem PySem.Spec PyProof.Rows L2
section
variable {n : Int} {ps : List Pi} {d : Int → Int → Int} (T : Tm n ps d)
include T
theorem roomAt_x (i : Int) : roomAt ps i (pr ps i).x = 0 := if_pos rfl
theorem roomAt_y {i : Int} (h0 : 0 ≤ i) (h1 : i < ps.length) : roomAt ps i (pr ps i).y = (pr ps i).l := if_neg (Tm.own T h0 h1).2.2
theorem room_pc {i a r b : Int} (h0 : 0 ≤ i) (h1 : i < ps.length) (a0 : 1 ≤ a) (a1 : a ≤ (pr ps i).l - 1) (m : [r, b] ∈ exitsL ps [i, a]) :
    0 ≤ roomAt ps i r ∧ roomAt ps i r ≤ (pr ps i).l ∧ nm ps i (roomAt ps i r) = [r] ∧ ab a (roomAt ps i r) = b ∧ ab (roomAt ps i r) a = b ∧ nm ps i a = [i, a] := by
  have m' : [r, b] ∈ [[(pr ps i).x, a], [(pr ps i).y, (pr ps i).l - a]] := m
  have nn : nm ps i a = [i, a] := nm_mid (by omega) (by omega)
  rcases List.mem_cons.mp m' with e | m'
  · obtain ⟨e1, e2⟩ := List.cons.inj e
    have e3 := (List.cons.inj e2).1
    rw [e1, roomAt_x T i]
    refine ⟨by omega, by omega, nm_0 ps i, ?_, ?_, nn⟩
    · unfold ab; split <;> omega
    · unfold ab; split <;> omega
  · obtain ⟨e1, e2⟩ := List.cons.inj (List.mem_singleton.mp m')
    have e3 := (List.cons.inj e2).1
    rw [e1, roomAt_y T h0 h1]
    refine ⟨by omega, by omega, nm_l (by omega), ?_, ?_, nn⟩
    · unfold ab; split <;> omega
    · unfold ab; split <;> omega
end
theorem chn_pcs {ps : List Pi} {p q : Pl} {r : List (List Int)} (h : Chn ps p r q) : ∀ c ∈ r, PcOk ps c := by
  induction h with
  | nil => exact fun _ z => nomatch z
  | cons ok _ ih =>
    intro c m
    rcases List.mem_cons.mp m with rfl | m
    · exact ok
    · exact ih c m
section
variable {P : Program} {w : World} {K : PySem.W.Frag} {mg : Str → Option Value} {base : Heap}
abbrev sRow : Stmt := topS 12
abbrev nRow : List Str := ["plan", "one", "other", "steps", "here", "last", "pieces", "pipe", "at", "beyond", "far"]
theorem scRow : FnScope nRow ["plan", "one", "other"] (defScope sRow) := ⟨rfl, rfl, rfl, by decide +kernel, rfl, by decide +kernel, by decide +kernel⟩
def spRow (C : Addr) : Sp := fun vs H Q _ => ∃ (a : Addr) (o1 o2 : V) (n : Int) (ps : List Pi) (d : Int → Int → Int) (p q : Pl), vs = [.ref a, o1, o2] ∧ PlanAt C [] H a n ps d ∧ Tm n ps d ∧ n ≤ 16 ∧ Dt [] H o1 (tupI p) ∧ Dt [] H o2 (tupI q) ∧ okP n ps p ∧ okP n ps q ∧
  ∀ (H' : Hp) (l : Addr) (us : List V) (pcs : List (List Int)), Keep [] H H' → H' l = some (.lst us) → Dts [] H' us (pcs.map tupI) → Chn ps p pcs q → ptot pcs = Dp ps d p q → pcs.length ≤ 100 → Q (.ref l) H'
/-! what the loop keeps: where it is, the pieces so far, the rooms that were left -/
structure RowI (n : Int) (ps : List Pi) (d : Int → Int → Int) (p : Pl) (s e fr : Int) (here : Int) (pcs : List (List Int)) (vis : List Int) : Prop where
  h0 : 0 ≤ here
  h1 : here < n
  ch : Chn ps p pcs [here]
  tot : ptot pcs + d here fr + e = s
  nd : vis.Nodup
  rg : ∀ v ∈ vis, 0 ≤ v ∧ v < n ∧ d fr here < d fr v
  few : pcs.length ≤ vis.length + 1
theorem tups_keep {av : List Addr} {G G' : Hp} (k : ∀ b xs, G b = some (.tup xs) → G' b = some (.tup xs)) : ∀ (us : List V) (pcs : List (List Int)), Dts av G us (pcs.map tupI) → Dts av G' us (pcs.map tupI)
  | [], [], _ => .nil
  | _ :: us, c :: pcs, h => by
    cases h with
    | cons h1 h2 =>
      obtain ⟨t, rfl, nt, et⟩ := tupI_at h1
      exact .cons (.tup nt (k t _ et) (Dts.ints c)) (tups_keep k us pcs h2)
  | [], _ :: _, h => nomatch h
  | _ :: _, [], h => nomatch h
theorem app_lst {H G : Hp} {l t : Addr} {us : List V} {pcs : List (List Int)} (c : List Int) (nl : H l = none) (kG : Keep [] H G) (el : G l = some (.lst us)) (du : Dts [] G us (pcs.map tupI)) (nt : G t = none) :
    Keep [] H (upd (upd G t (.tup (c.map V.int))) l (.lst (us ++ [.ref t]))) ∧ (upd (upd G t (.tup (c.map V.int))) l (.lst (us ++ [.ref t]))) l = some (.lst (us ++ [.ref t])) ∧ Dts [] (upd (upd G t (.tup (c.map V.int))) l (.lst (us ++ [.ref t]))) (us ++ [.ref t]) ((pcs ++ [c]).map tupI) ∧ (upd G t (.tup (c.map V.int))) l = some (.lst us) := by
  have ntl : l ≠ t := ne_of_none el nt
  have el1 : (upd G t (.tup (c.map V.int))) l = some (.lst us) := by rw [upd_ne ntl]; exact el
  have kt : ∀ b xs, (upd G t (.tup (c.map V.int))) b = some (.tup xs) → (upd (upd G t (.tup (c.map V.int))) l (.lst (us ++ [.ref t]))) b = some (.tup xs) := keepTup (u := .lst (us ++ [.ref t])) el1 (fun xs z => by cases z)
  refine ⟨(kG.trans (Keep.new nt)).upd nl, upd_same, ?_, el1⟩
  rw [List.map_append]
  exact Dts.app (tups_keep (fun b xs eb => kt b xs (keepTupN nt b xs eb)) us pcs du) (.cons (.tup List.not_mem_nil (kt t _ upd_same) (Dts.ints c)) .nil)
theorem RowI.few' {n : Int} {ps : List Pi} {d : Int → Int → Int} {p : Pl} {s e fr here : Int} {pcs : List (List Int)} {vis : List Int} (I : RowI n ps d p s e fr here pcs vis) (hn : n ≤ 16) : pcs.length ≤ 17 := by
  have := pigeon 16 vis I.nd (fun t ht => by have := I.rg t ht; omega)
  have := I.few
  omega
theorem RowI.next {n : Int} {ps : List Pi} {d : Int → Int → Int} (T : Tm n ps d) {p : Pl} {s e fr here : Int} {pcs : List (List Int)} {vis : List Int} (I : RowI n ps d p s e fr here pcs vis) (f0 : 0 ≤ fr) (f1 : fr < n) {row : List Int} (h : TowRow ps d fr here row) :
    ∃ i a y b : Int, row = [i, a, y, b] ∧ RowI n ps d p s e fr y (pcs ++ [[i, a, b]]) (vis ++ [here]) ∧ (d fr y).toNat < (d fr here).toNat := by
  obtain ⟨i, pp, gp, h⟩ := h
  have il : i < ps.length := (List.getElem?_eq_some_iff.mp gp).1
  have ep := pr_of gp
  have m : pp ∈ ps := List.mem_of_getElem? gp
  obtain ⟨x0, x1, y0, y1, l1⟩ := T.ok pp m
  have nnf : ∀ t, 0 ≤ t → t < n → 0 ≤ d fr t := fun t t0 t1 => by
    by_cases z : fr = t
    · subst z; rw [T.zero]; exact Int.le_refl 0
    · have := T.pos fr t f0 f1 t0 t1 z; omega
  have fin : ∀ (a b y : Int), 0 ≤ y → y < n → ((a = 0 ∧ b = pp.l ∧ pp.x = here ∧ pp.y = y) ∨ (a = pp.l ∧ b = 0 ∧ pp.y = here ∧ pp.x = y)) → d fr y + pp.l = d fr here → RowI n ps d p s e fr y (pcs ++ [[(i : Int), a, b]]) (vis ++ [here]) ∧ (d fr y).toNat < (d fr here).toNat := fun a b y hy0 hy1 hab hd => by
    have pl : plen [(i : Int), a, b] = pp.l := by
      show ab a b = pp.l
      unfold ab
      rcases hab with ⟨h1, h2, _⟩ | ⟨h1, h2, _⟩ <;> rw [h1, h2] <;> split <;> omega
    have eb : [here] = beg ps [(i : Int), a, b] := by
      show _ = nm ps (i : Int) a
      rcases hab with ⟨h1, h2, h3, _⟩ | ⟨h1, h2, h3, _⟩
      · rw [h1, nm_0, ep, h3]
      · have z := nm_l (ps := ps) (i := (i : Int)) (by rw [ep]; omega)
        rw [ep] at z
        rw [h1, z, h3]
    have ef : fin' ps [(i : Int), a, b] = [y] := by
      show nm ps (i : Int) b = _
      rcases hab with ⟨h1, h2, _, h3⟩ | ⟨h1, h2, _, h3⟩
      · have z := nm_l (ps := ps) (i := (i : Int)) (by rw [ep]; omega)
        rw [ep] at z
        rw [h2, z, h3]
      · rw [h2, nm_0, ep, h3]
    have ok : PcOk ps [(i : Int), a, b] := ⟨i, a, b, rfl, by omega, by omega, by rcases hab with ⟨h1, h2, _⟩ | ⟨h1, h2, _⟩ <;> omega, by rw [ep]; rcases hab with ⟨h1, h2, _⟩ | ⟨h1, h2, _⟩ <;> omega, by rcases hab with ⟨h1, h2, _⟩ | ⟨h1, h2, _⟩ <;> omega, by rw [ep]; rcases hab with ⟨h1, h2, _⟩ | ⟨h1, h2, _⟩ <;> omega⟩
    have ny := nnf y hy0 hy1
    refine ⟨⟨hy0, hy1, ?_, ?_, ?_, fun v hv => ?_, ?_⟩, by omega⟩
    · have z := I.ch.snoc ok eb
      rw [ef] at z; exact z
    · rw [ptot_snoc, pl]
      have := I.tot
      rw [T.sym y fr]
      rw [T.sym here fr] at this
      omega
    · refine List.nodup_append.mpr ⟨I.nd, by simp, fun u hu v hv => ?_⟩
      rw [List.mem_singleton.mp hv]
      intro z
      have := (I.rg u hu).2.2
      rw [z] at this
      omega
    · rcases List.mem_append.mp hv with hv | hv
      · have := I.rg v hv
        exact ⟨this.1, this.2.1, by omega⟩
      · rw [List.mem_singleton.mp hv]
        exact ⟨I.h0, I.h1, by omega⟩
    · rw [List.length_append, List.length_append, List.length_singleton, List.length_singleton]
      have := I.few
      omega
  rcases h with ⟨rfl, h1, h2⟩ | ⟨rfl, h1, h2⟩
  · exact ⟨_, _, _, _, rfl, fin _ _ _ y0 y1 (.inl ⟨rfl, rfl, h1, rfl⟩) h2⟩
  · exact ⟨_, _, _, _, rfl, fin _ _ _ x0 x1 (.inr ⟨rfl, rfl, h1, rfl⟩) h2⟩
theorem ok_row {C : Addr} (h : Has K mg "row_of" sRow) (B : Blt mg) (X : PlanTxt K C) (CO : Can P w K mg base "are_in_one_pipe" ["one", "other"] 1 spOnePipe) (CS : Can P w K mg base "shortest" ["plan", "one", "other"] 2 (spShort C)) (CR : Can P w K mg base "room_at" ["plan", "pipe", "room"] 1 (spRAt C)) : Can P w K mg base "row_of" ["plan", "one", "other"] 3 (spRow C) := by
  obtain ⟨f, fd, F, g⟩ := h
  refine ⟨f, fd, F.ok (k := 2) scRow (fun vs H Q E h => ?_) (fun cdv A outer s H vs Q E hr h => ?_), g, F.kp, F.binds fun _ _ _ _ _ _ us hl => match us, hl with | [_, _, _], _ => rfl⟩
  · obtain ⟨a, o1, o2, n, ps, d, p, q, rfl, _⟩ := h
    rfl
  · obtain ⟨a, o1, o2, n, ps, d, p, q, rfl, pl, T, hn, h1, h2, okp, okq, k⟩ := h
    refine ⟨_, pss_cons (ps_if (pt_val (pe_can CO (hr.mono (by decide)) (by rfl) (pa_cons (pv 1) (pa_cons (pv 2) pa_nil)))) (pss_one (ps_ret (pe_lst (pa_cons (pe_tup (pa_cons (pe_ix ix_tup (pv 1) pe_int (fun _ _ => rfl)) (pa_cons (pe_ix ix_tup (pv 1) pe_int (fun _ _ => rfl)) (pa_cons (pe_ix ix_tup (pv 2) pe_int (fun _ _ => rfl)) pa_nil)))) pa_nil)))) pss_nil)
      (pss_cons (ps_asg (pe_can CS (hr.mono (by decide)) (by rfl) (pa_cons (pv 0) (pa_cons (pv 1) (pa_cons (pv 2) pa_nil)))) (pg_tup (by rfl) (pgs_cons (pg_name (i := 3) scRow.nd rfl (by first | exact Or.inl rfl | exact Or.inr rfl)) (pgs_cons (pg_name (i := 4) scRow.nd rfl (by first | exact Or.inl rfl | exact Or.inr rfl)) (pgs_cons (pg_name (i := 5) scRow.nd rfl (by first | exact Or.inl rfl | exact Or.inr rfl)) pgs_nil)))))
      (pss_cons (ps_set (i := 6) scRow.nd rfl (by first | exact Or.inl rfl | exact Or.inr rfl) (pe_lst pa_nil))
      (pss_cons (ps_if (pt_cmpR op_eq (pe_callB call_len_seq (by rfl) B.len_ PySem.boot_len (pa_cons (pv 1) pa_nil)) pe_int (nomark _)) (pss_one (ps_expr (pe_bm PySem.F.plainAttrs_list PySem.F.slot_list_append PySem.F.type_list_append mt_append (pv 6) (pa_cons (pe_tup (pa_cons (pe_ix ix_tup (pv 1) pe_int (fun _ _ => rfl)) (pa_cons (pe_ix ix_tup (pv 1) pe_int (fun _ _ => rfl)) (pa_cons (pe_can CR (hr.mono (by decide)) (by rfl) (pa_cons (pv 0) (pa_cons (pe_ix ix_tup (pv 1) pe_int (fun _ _ => rfl)) (pa_cons (pv 4) pa_nil)))) pa_nil)))) pa_nil)))) pss_nil)
      (pss_cons (ps_while PassesOwn.never (pt_cmpR op_ne (pv 4) (pv 5) (nomark _))
      (pss_cons (ps_asg (pe_dget (hu_of hr) (pe_ix ix_list (pe_fld (pv 0) rfl) (pv 5) (fun _ _ => rfl)) (pv 4) (fun _ _ => rfl)) (pg_tup (by rfl) (pgs_cons (pg_name (i := 7) scRow.nd rfl (by first | exact Or.inl rfl | exact Or.inr rfl)) (pgs_cons (pg_name (i := 8) scRow.nd rfl (by first | exact Or.inl rfl | exact Or.inr rfl)) (pgs_cons (pg_name (i := 9) scRow.nd rfl (by first | exact Or.inl rfl | exact Or.inr rfl)) (pgs_cons (pg_name (i := 10) scRow.nd rfl (by first | exact Or.inl rfl | exact Or.inr rfl)) pgs_nil))))))
      (pss_cons (ps_expr (pe_bm PySem.F.plainAttrs_list PySem.F.slot_list_append PySem.F.type_list_append mt_append (pv 6) (pa_cons (pe_tup (pa_cons (pv 7) (pa_cons (pv 8) (pa_cons (pv 10) pa_nil)))) pa_nil)))
      (pss_one (ps_set (i := 4) scRow.nd rfl (by first | exact Or.inl rfl | exact Or.inr rfl) (pv 9))))))
      (pss_cons (ps_if (pt_cmpR op_eq (pe_callB call_len_seq (by rfl) B.len_ PySem.boot_len (pa_cons (pv 2) pa_nil)) pe_int (nomark _)) (pss_one (ps_expr (pe_bm PySem.F.plainAttrs_list PySem.F.slot_list_append PySem.F.type_list_append mt_append (pv 6) (pa_cons (pe_tup (pa_cons (pe_ix ix_tup (pv 2) pe_int (fun _ _ => rfl)) (pa_cons (pe_can CR (hr.mono (by decide)) (by rfl) (pa_cons (pv 0) (pa_cons (pe_ix ix_tup (pv 2) pe_int (fun _ _ => rfl)) (pa_cons (pv 5) pa_nil)))) (pa_cons (pe_ix ix_tup (pv 2) pe_int (fun _ _ => rfl)) pa_nil)))) pa_nil)))) pss_nil)
      (pss_one (ps_ret (pv 6)))))))), ?_⟩
    refine ⟨o1, rfl, o2, rfl, o1, o2, p, q, rfl, h1, h2, ok_ne okp, ok_ne okq, _, rfl, ?_⟩
    cases c : onePipe p q with
    | true =>
      obtain ⟨i, x, y, rfl, rfl, e⟩ := one_pipe (d := d) okp okq c
      obtain ⟨a1, rfl, _, e1⟩ := tupI_at h1
      obtain ⟨a2, rfl, _, e2⟩ := tupI_at h2
      refine iteT ⟨.ref a1, rfl, a1, _, 0, .int i, rfl, rfl, SqT.of e1, atI_nat (j := 0) rfl, .ref a1, rfl, a1, _, 1, .int x, rfl, rfl, SqT.of e1, atI_nat (j := 1) rfl, .ref a2, rfl, a2, _, 1, .int y, rfl, rfl, SqT.of e2, atI_nat (j := 1) rfl, show 3 ≤ sizeLine by decide, fun t nt => ⟨show 1 ≤ sizeLine by decide, fun l nl => ?_⟩⟩
      rcases ok_cases okp with ⟨_, z, _⟩ | ⟨i', x', z, i0, i1, x0, x1⟩
      · cases z
      obtain ⟨ei, z2⟩ := List.cons.inj z
      obtain ⟨ex, _⟩ := List.cons.inj z2
      subst ei ex
      rcases ok_cases okq with ⟨_, z, _⟩ | ⟨i', y', z, _, _, y0, y1⟩
      · cases z
      obtain ⟨ei, z2⟩ := List.cons.inj z
      obtain ⟨ey, _⟩ := List.cons.inj z2
      subst ei ey
      have nx : nm ps i x = [i, x] := nm_mid (by omega) (by omega)
      have ny : nm ps i y = [i, y] := nm_mid (by omega) (by omega)
      have ok : PcOk ps [i, x, y] := ⟨i, x, y, rfl, i0, i1, by omega, by omega, by omega, by omega⟩
      have ch : Chn ps (beg ps [i, x, y]) [[i, x, y]] (fin' ps [i, x, y]) := .cons ok (.nil _)
      have e1' : beg ps [i, x, y] = [i, x] := nx
      have e2' : fin' ps [i, x, y] = [i, y] := ny
      rw [e1', e2'] at ch
      refine k _ l _ [[i, x, y]] ((Keep.new nt).trans (Keep.new nl)) upd_same (.cons (.tup List.not_mem_nil (by rw [upd_ne (ne_of_none upd_same nl)]; exact upd_same) (Dts.ints [i, x, y])) .nil) ch ?_ (by show 1 ≤ 100; decide)
      rw [e]
      show ab x y + 0 = ab x y
      omega
    | false =>
      refine iteF ⟨.ref a, rfl, o1, rfl, o2, rfl, a, o1, o2, n, ps, d, p, q, rfl, pl, T, h1, h2, okp, okq, fun H' v ns kH dv mn hm => ?_⟩
      have es := trips_min T okp okq c mn hm
      obtain ⟨en, men, mn2⟩ := List.mem_flatMap.mp mn
      obtain ⟨ef, mef, rfl⟩ := List.mem_map.mp mn2
      obtain ⟨r, b, rfl, r0, r1⟩ := exits_ok T okp en men
      obtain ⟨fr, e, rfl, f0, f1⟩ := exits_ok T okq ef mef
      have es' : b + d r fr + e = Dp ps d p q := es
      obtain ⟨t, rfl, _, et⟩ := tupI_at dv
      refine ⟨t, _, rfl, SqT.of et, rfl, _, _, rfl, _, _, rfl, _, [], rfl, rfl, ?_⟩
      refine ⟨show 0 ≤ sizeLine by decide, fun l nl => ?_⟩
      have kl : Keep [] H (upd H' l (.lst [])) := kH.trans (Keep.new nl)
      have fl : H l = none := kH.fr nl
      have el : (upd H' l (.lst [])) l = some (.lst []) := upd_same
      generalize upd H' l (.lst []) = G0 at kl el ⊢
      obtain ⟨a1, rfl, _, e1⟩ := tupI_at h1
      obtain ⟨a2, rfl, _, e2⟩ := tupI_at h2
      have big : ∀ x : Nat, x ≤ 17 → x < sizeLine := fun x hx => Nat.lt_of_lt_of_le (by omega : x < 1000) (small1000 (by omega))
      rcases ok_cases okp with ⟨r', ep, _, _⟩ | ⟨i, x, ep, i0, i1, x0, x1⟩
      case' inl =>
        have z : [r, b] ∈ [[r', 0]] := by rw [ep] at men; exact men
        obtain ⟨z1, z2⟩ := List.cons.inj (List.mem_singleton.mp z)
        have z3 := (List.cons.inj z2).1
        have I0 : RowI n ps d p (Dp ps d p q) e fr r [] [] := ⟨r0, r1, by rw [ep, ← z1]; exact .nil _, by show 0 + d r fr + e = _; omega, List.nodup_nil, fun _ z => (nomatch z), Nat.zero_le _⟩
        have e1' : H a1 = some (.tup [.int r']) := by rw [ep] at e1; exact e1
        refine ⟨.ref a1, rfl, a1, _, rfl, .inr (SqT.of (kl a1 _ e1' List.not_mem_nil)), rfl, false, rfl, iteF ?_⟩
        refine ⟨fun m σ G => ∃ (here : Int) (us : List V) (pcs : List (List Int)) (vis : List Int) (S : V) (s7 s8 s9 s10 : Option V), σ = [some (.ref a), some (.ref a1), some (.ref a2), some S, some (.int here), some (.int fr), some (.ref l), s7, s8, s9, s10] ∧ Keep [] H G ∧ G l = some (.lst us) ∧ Dts [] G us (pcs.map tupI) ∧ RowI n ps d p (Dp ps d p q) e fr here pcs vis ∧ m = (d fr here).toNat,
          ⟨_, r, [], [], [], _, none, none, none, none, rfl, kl, el, .nil, I0, rfl⟩, fun m σ G pp => ?_⟩
      case' inr =>
        have e1' : H a1 = some (.tup [.int i, .int x]) := by rw [ep] at e1; exact e1
        have e1G := kl a1 _ e1' List.not_mem_nil
        have men' : [r, b] ∈ exitsL ps [i, x] := by rw [ep] at men; exact men
        obtain ⟨g0, g1, g2, g3, _, g5⟩ := room_pc T i0 i1 x0 x1 men'
        refine ⟨.ref a1, rfl, a1, _, rfl, .inr (SqT.of e1G), rfl, true, rfl, iteT ?_⟩
        refine ⟨.ref l, rfl, .inl ⟨rfl, _, SqL.of el⟩, .ref a1, rfl, a1, _, 0, .int i, rfl, rfl, SqT.of e1G, atI_nat (j := 0) rfl, .ref a1, rfl, a1, _, 1, .int x, rfl, rfl, SqT.of e1G, atI_nat (j := 1) rfl, .ref a, rfl, .ref a1, rfl, a1, _, 0, .int i, rfl, rfl, SqT.of e1G, atI_nat (j := 0) rfl, .int r, rfl, a, n, i, r, ps, d, rfl, pl.keep kl, i0, i1, show 3 ≤ sizeLine by decide, fun t nt => ?_⟩
        obtain ⟨m1, m2, m3, m4⟩ := app_lst (pcs := []) [i, x, roomAt ps i r] fl kl el .nil nt
        refine ⟨l, _, _, rfl, rfl, m4, big 0 (by omega), ?_⟩
        have ok : PcOk ps [i, x, roomAt ps i r] := ⟨i, x, _, rfl, i0, i1, by omega, by omega, g0, g1⟩
        have ch : Chn ps (beg ps [i, x, roomAt ps i r]) [[i, x, roomAt ps i r]] (fin' ps [i, x, roomAt ps i r]) := .cons ok (.nil _)
        have b1 : beg ps [i, x, roomAt ps i r] = p := g5.trans ep.symm
        have b2 : fin' ps [i, x, roomAt ps i r] = [r] := g2
        rw [b1, b2] at ch
        have I0 : RowI n ps d p (Dp ps d p q) e fr r [[i, x, roomAt ps i r]] [] := ⟨r0, r1, ch, by show ab x (roomAt ps i r) + 0 + d r fr + e = _; omega, List.nodup_nil, fun _ z => (nomatch z), Nat.le_refl _⟩
        refine ⟨fun m σ G => ∃ (here : Int) (us : List V) (pcs : List (List Int)) (vis : List Int) (S : V) (s7 s8 s9 s10 : Option V), σ = [some (.ref a), some (.ref a1), some (.ref a2), some S, some (.int here), some (.int fr), some (.ref l), s7, s8, s9, s10] ∧ Keep [] H G ∧ G l = some (.lst us) ∧ Dts [] G us (pcs.map tupI) ∧ RowI n ps d p (Dp ps d p q) e fr here pcs vis ∧ m = (d fr here).toNat,
          ⟨_, r, _, _, [], _, none, none, none, none, rfl, m1, m2, m3, I0, rfl⟩, fun m σ G pp => ?_⟩
      all_goals
        clear ep
        obtain ⟨here, us, pcs, vis, S, s7, s8, s9, s10, rfl, kG, elG, du, I, rfl⟩ := pp
        have few := I.few' hn
        have lus : us.length = pcs.length := by rw [du.len, List.length_map]
        refine ⟨.int here, rfl, .int fr, rfl, rfl, _, rfl, ?_⟩
        by_cases eh : here = fr
        · rw [show (!decide (V.int here = V.int fr)) = false from by rw [decide_eq_true (congrArg V.int eh)]; rfl]
          refine iteF ?_
          have tot := I.tot
          have ch := I.ch
          rw [eh, T.zero] at tot
          rw [eh] at ch
          have e2G := kG a2 _ e2 List.not_mem_nil
          rcases ok_cases okq with ⟨t', eq, _, _⟩ | ⟨j, y, eq, j0, j1, y0, y1⟩
          · have z : [fr, e] ∈ [[t', 0]] := by rw [eq] at mef; exact mef
            obtain ⟨z1, z2⟩ := List.cons.inj (List.mem_singleton.mp z)
            have z3 := (List.cons.inj z2).1
            have e2' : G a2 = some (.tup [.int t']) := by rw [eq] at e2G; exact e2G
            refine ⟨.ref a2, rfl, a2, _, rfl, .inr (SqT.of e2'), rfl, false, rfl, iteF ?_⟩
            exact ⟨.ref l, rfl, k G l us pcs kG elG du (by rw [eq, ← z1]; exact ch) (by omega) (by omega)⟩
          · have e2' : G a2 = some (.tup [.int j, .int y]) := by rw [eq] at e2G; exact e2G
            have mef' : [fr, e] ∈ exitsL ps [j, y] := by rw [eq] at mef; exact mef
            obtain ⟨g0, g1, g2, _, g4, g5⟩ := room_pc T j0 j1 y0 y1 mef'
            refine ⟨.ref a2, rfl, a2, _, rfl, .inr (SqT.of e2'), rfl, true, rfl, iteT ?_⟩
            refine ⟨.ref l, rfl, .inl ⟨rfl, _, SqL.of elG⟩, .ref a2, rfl, a2, _, 0, .int j, rfl, rfl, SqT.of e2', atI_nat (j := 0) rfl, .ref a, rfl, .ref a2, rfl, a2, _, 0, .int j, rfl, rfl, SqT.of e2', atI_nat (j := 0) rfl, .int fr, rfl, a, n, j, fr, ps, d, rfl, pl.keep kG, j0, j1, .ref a2, rfl, a2, _, 1, .int y, rfl, rfl, SqT.of e2', atI_nat (j := 1) rfl, show 3 ≤ sizeLine by decide, fun t nt => ?_⟩
            obtain ⟨m1, m2, m3, m4⟩ := app_lst [j, roomAt ps j fr, y] fl kG elG du nt
            refine ⟨l, _, _, rfl, rfl, m4, big _ (by omega), ?_⟩
            have ok : PcOk ps [j, roomAt ps j fr, y] := ⟨j, _, y, rfl, j0, j1, g0, g1, by omega, by omega⟩
            have ch2 := ch.snoc ok g2.symm
            have b2 : fin' ps [j, roomAt ps j fr, y] = q := g5.trans eq.symm
            rw [b2] at ch2
            refine ⟨.ref l, rfl, k _ l _ _ m1 m2 m3 ch2 ?_ (by rw [List.length_append, List.length_singleton]; omega)⟩
            rw [ptot_snoc]
            show ptot pcs + ab (roomAt ps j fr) y = _
            omega
        · rw [show (!decide (V.int here = V.int fr)) = true from by rw [decide_eq_false (fun z => eh (V.int.inj z))]; rfl]
          refine iteT ?_
          refine ⟨fun σ' G' => ∃ m', m' < (d fr here).toNat ∧ ∃ (here : Int) (us : List V) (pcs : List (List Int)) (vis : List Int) (S : V) (s7 s8 s9 s10 : Option V), σ' = [some (.ref a), some (.ref a1), some (.ref a2), some S, some (.int here), some (.int fr), some (.ref l), s7, s8, s9, s10] ∧ Keep [] H G' ∧ G' l = some (.lst us) ∧ Dts [] G' us (pcs.map tupI) ∧ RowI n ps d p (Dp ps d p q) e fr here pcs vis ∧ m' = (d fr here).toNat, fun σ' G' h => h, ?_⟩
          obtain ⟨dx, hb, pp, dl, gl, tl, xp, ds, gs, ws, q1, q2, q3, q4, q5, q6, q7, q8, q9, b1, b2, b3, b4, b5, b6, b7, b8, b9, c1, c2⟩ := pl.keep kG
          obtain ⟨wz, gwz⟩ : ∃ z, ws[fr.toNat]? = some z := ⟨_, List.getElem?_eq_getElem (by omega)⟩
          obtain ⟨_, kvs, ekv, tw⟩ := c2 fr.toNat wz gwz
          have efr : ((fr.toNat : Nat) : Int) = fr := by omega
          rw [efr] at tw
          obtain ⟨Tr', row, hval, _, eT, trow⟩ := tw here (start_mem.mpr ⟨I.h0, by have := I.h1; omega⟩) eh
          obtain ⟨i', x', y', z', rfl, I', ms⟩ := I.next T f0 f1 trow
          refine ⟨.ref a, rfl, a, C, dx, _, .ref tl, rfl, q2, X.cl, X.nT, pf_tow .., .int fr, rfl, tl, _, fr, .ref wz, rfl, rfl, SqL.of b9, atI_of f0 (by rw [List.getElem?_map, gwz]; rfl), .int here, rfl, wz, .ref Tr', rfl, by rw [← hval]; exact DGet.k (k := Sum.inl here) ekv, Tr', _, rfl, SqT.of eT, rfl, _, _, rfl, _, _, rfl, _, _, rfl, _, [], rfl, rfl, ?_⟩
          refine ⟨.ref l, rfl, .inl ⟨rfl, _, SqL.of elG⟩, .int i', rfl, .int x', rfl, .int z', rfl, show 3 ≤ sizeLine by decide, fun t nt => ?_⟩
          obtain ⟨m1, m2, m3, m4⟩ := app_lst [i', x', z'] fl kG elG du nt
          refine ⟨l, _, _, rfl, rfl, m4, big _ (by omega), .int y', rfl, ?_⟩
          exact ⟨_, ms, y', _, _, _, _, _, _, _, _, rfl, m1, m2, m3, I', rfl⟩
end
end Rw

namespace Rw
open PySem PySem.Spec PyProof.Rows L2
section
variable {P : Program} {w : World} {K : PySem.W.Frag} {mg : Str → Option Value} {base : Heap}
abbrev sBtn : Stmt := topS 16
abbrev nBtn : List Str := ["plan", "one", "other", "steps"]
theorem scBtn : FnScope nBtn ["plan", "one", "other", "steps"] (defScope sBtn) := ⟨rfl, rfl, rfl, by decide +kernel, rfl, by decide +kernel, by decide +kernel⟩
def spBtn (C : Addr) : Sp := fun vs H Q _ => ∃ (a : Addr) (o1 o2 : V) (n k : Int) (ps : List Pi) (d : Int → Int → Int) (p q : Pl), vs = [.ref a, o1, o2, .int k] ∧ PlanAt C [] H a n ps d ∧ Tm n ps d ∧ n ≤ 16 ∧ Dt [] H o1 (tupI p) ∧ Dt [] H o2 (tupI q) ∧ okP n ps p ∧ okP n ps q ∧ 0 ≤ k ∧ k ≤ Dp ps d p q ∧
  ∀ (H' : Hp) (v : V) (z : Pl), Keep [] H H' → Dt [] H' v (tupI z) → okP n ps z → Dp ps d p z = k → Dp ps d z q = Dp ps d p q - k → Q v H'
theorem ok_btn {C : Addr} (h : Has K mg "place_between" sBtn) (CA : Can P w K mg base "place_along" ["plan", "pieces", "steps"] 2 (spPAl C)) (CR : Can P w K mg base "row_of" ["plan", "one", "other"] 3 (spRow C)) : Can P w K mg base "place_between" ["plan", "one", "other", "steps"] 4 (spBtn C) := by
  obtain ⟨f, fd, F, g⟩ := h
  refine ⟨f, fd, F.ok (k := 3) scBtn (fun vs H Q E h => ?_) (fun cdv A outer s H vs Q E hr h => ?_), g, F.kp, F.binds fun _ _ _ _ _ _ us hl => match us, hl with | [_, _, _, _], _ => rfl⟩
  · obtain ⟨a, o1, o2, n, k, ps, d, p, q, rfl, _⟩ := h
    rfl
  · obtain ⟨a, o1, o2, n, k, ps, d, p, q, rfl, pl, T, hn, h1, h2, okp, okq, k0, k1, kk⟩ := h
    refine ⟨_, pss_cons (ps_if (pt_cmpR op_eq (pv 3) pe_int (nomark _)) (pss_one (ps_ret (pv 1))) pss_nil)
      (pss_one (ps_ret (pe_can CA (hr.mono (by decide)) (by rfl) (pa_cons (pv 0) (pa_cons (pe_can CR (hr.mono (by decide)) (by rfl) (pa_cons (pv 0) (pa_cons (pv 1) (pa_cons (pv 2) pa_nil)))) (pa_cons (pv 3) pa_nil)))))), ?_⟩
    refine ⟨.int k, rfl, rfl, _, rfl, ite2 (fun e => ?_) (fun e => ?_)⟩
    · have e0 : k = 0 := V.int.inj (of_decide_eq_true e)
      exact ⟨o1, rfl, kk H o1 p (Keep.refl _ _) h1 okp (by rw [Dp_self T okp, e0]) (by omega)⟩
    · have e0 : ¬ k = 0 := fun z => e (decide_eq_true (by rw [z]))
      refine ⟨.ref a, rfl, .ref a, rfl, o1, rfl, o2, rfl, a, o1, o2, n, ps, d, p, q, rfl, pl, T, hn, h1, h2, okp, okq, fun H1 l us pcs k1' el du ch ht hl => ?_⟩
      refine ⟨.int k, rfl, a, l, n, k, ps, d, us, pcs, [], rfl, pl.keep k1', el, du, fun z => ?_, by omega, chn_pcs ch, (show Tr [] H1 from fun _ m => absurd m List.not_mem_nil), fun H2 v k2 _ dv => ?_⟩
      · rw [z] at ht
        have : ptot [] = 0 := rfl
        omega
      · obtain ⟨z1, z2, z3⟩ := along_at T ch okq ht (k := k) (by omega) (by omega)
        exact kk H2 v _ (k1'.trans k2) dv z1 z2 (by omega)
abbrev sOn : Stmt := topS 19
abbrev nOn : List Str := ["house", "one", "other", "steps"]
theorem scOn : FnScope nOn ["house", "one", "other", "steps"] (defScope sOn) := ⟨rfl, rfl, rfl, by decide +kernel, rfl, by decide +kernel, by decide +kernel⟩
def spOn : Sp := fun vs H Q _ => ∃ (h o1 o2 : V) (n k : Int) (ps : List Pi) (d : Int → Int → Int) (p q : Pl), vs = [h, o1, o2, .int k] ∧ Dt [] H h (houseD n (ps.map Pi.dat)) ∧ HouseOk n ps ∧ Tm n ps d ∧ Dt [] H o1 (tupI p) ∧ Dt [] H o2 (tupI q) ∧ okP n ps p ∧ okP n ps q ∧ 0 ≤ k ∧ k ≤ Dp ps d p q ∧
  ∀ (H' : Hp) (v : V) (z : Pl), Keep [] H H' → Dt [] H' v (tupI z) → okP n ps z → Dp ps d p z = k → Dp ps d z q = Dp ps d p q - k → Q v H'
theorem ok_on {C : Addr} (h : Has K mg "place_on" sOn) (CP : CanMk P w K mg base "Plan" C ["self", "house"] 2 (spInit C)) (CB : Can P w K mg base "place_between" ["plan", "one", "other", "steps"] 4 (spBtn C)) : Can P w K mg base "place_on" ["house", "one", "other", "steps"] 5 spOn := by
  obtain ⟨f, fd, F, g⟩ := h
  refine ⟨f, fd, F.ok (k := 4) scOn (fun vs H Q E h => ?_) (fun cdv A outer s H vs Q E hr h => ?_), g, F.kp, F.binds fun _ _ _ _ _ _ us hl => match us, hl with | [_, _, _, _], _ => rfl⟩
  · obtain ⟨h, o1, o2, n, k, ps, d, p, q, rfl, _⟩ := h
    rfl
  · obtain ⟨h, o1, o2, n, k, ps, d, p, q, rfl, hh, hk, T, h1, h2, okp, okq, k0, k1, kk⟩ := h
    refine ⟨_, pss_one (ps_ret (pe_can CB (hr.mono (by decide)) (by rfl) (pa_cons (pe_mk CP (hr.mono (by decide)) (by rfl) (pa_cons (pv 0) pa_nil)) (pa_cons (pv 1) (pa_cons (pv 2) (pa_cons (pv 3) pa_nil)))))), ?_⟩
    refine ⟨h, rfl, fun x dx nx ndx ne => plan_made (C := C) hh hk T (show Tr [] H from fun _ m => absurd m List.not_mem_nil) nx ndx ne (fun H1 k1' _ pl => ?_)⟩
    exact ⟨rfl, o1, rfl, o2, rfl, .int k, rfl, x, o1, o2, n, k, ps, d, p, q, rfl, pl, T, hk.n2, h1.keep k1', h2.keep k1', okp, okq, k0, k1, fun H2 v z k2 => kk H2 v z (k1'.trans k2)⟩
end
end Rw

namespace Rw
open PySem PySem.Spec PyProof.Rows L2
def aStr : PyData → Bool
  | .str _ => true
  | _ => false
theorem kit_str (d : PyData) : kitB (tn d) "str" = some (aStr d) := by
  cases d <;> first | exact (show kitB "NoneType" "str" = some false by decide +kernel) | exact (show kitB "bool" "str" = some false by decide +kernel) | exact (show kitB "int" "str" = some false by decide +kernel) | exact (show kitB "str" "str" = some true by decide +kernel) | exact (show kitB "list" "str" = some false by decide +kernel) | exact (show kitB "tuple" "str" = some false by decide +kernel) | exact (show kitB "dict" "str" = some false by decide +kernel)
def aLst : PyData → Bool
  | .list _ => true
  | _ => false
theorem kit_lst (d : PyData) : kitB (tn d) "list" = some (aLst d) := by
  cases d <;> first | exact (show kitB "NoneType" "list" = some false by decide +kernel) | exact (show kitB "bool" "list" = some false by decide +kernel) | exact (show kitB "int" "list" = some false by decide +kernel) | exact (show kitB "str" "list" = some false by decide +kernel) | exact (show kitB "list" "list" = some true by decide +kernel) | exact (show kitB "tuple" "list" = some false by decide +kernel) | exact (show kitB "dict" "list" = some false by decide +kernel)
theorem kit_int_lt {K : PySem.W.Frag} : PySem.W.kitAny K (.type "int") [.type "list", .type "tuple"] = some false :=
  kitAny_cons (kit_ty (r := false) (by decide +kernel)) (fun _ => kitAny_cons (kit_ty (r := false) (by decide +kernel)) (fun _ => rfl) (fun e => by cases e)) (fun e => by cases e)
theorem kit_tup_lt {K : PySem.W.Frag} : PySem.W.kitAny K (.type "tuple") [.type "list", .type "tuple"] = some true :=
  kitAny_cons (kit_ty (r := false) (by decide +kernel)) (fun _ => kitAny_cons (kit_ty (r := true) (by decide +kernel)) (fun e => by cases e) (fun _ => rfl)) (fun e => by cases e)
section
variable {P : Program} {w : World} {K : PySem.W.Frag} {mg : Str → Option Value} {base : Heap}
abbrev sSame : Stmt := topS 34
abbrev nSame : List Str := ["_law_found", "_law_due", "_law_k"]
theorem scSame : FnScope nSame ["_law_found", "_law_due"] (defScope sSame) := ⟨rfl, rfl, rfl, by decide +kernel, rfl, by decide +kernel, by decide +kernel⟩
def spSame0 : Sp := fun vs H Q _ => ∃ (i j : Int), vs = [.int i, .int j] ∧ ∀ H', Keep [] H H' → Q (.bl (decide (i = j))) H'
theorem ok_same0 (h : Has K mg "_law_same" sSame) (B : Blt mg) : Can P w K mg base "_law_same" ["_law_found", "_law_due"] 1 spSame0 := by
  obtain ⟨f, fd, F, g⟩ := h
  refine ⟨f, fd, F.ok (k := 0) scSame (fun vs H Q E h => ?_) (fun cdv A outer s H vs Q E hr h => ?_), g, F.kp, F.binds fun _ _ _ _ _ _ us hl => match us, hl with | [_, _], _ => rfl⟩
  · obtain ⟨i, j, rfl, _⟩ := h
    rfl
  · obtain ⟨i, j, rfl, q⟩ := h
    refine ⟨_, pss_cons (ps_if (pt_val (pe_callB call_isiT (by rfl) B.isi boot_isinstance (pa_cons (pv 1) (pa_cons (pe_tup (pa_cons (pe_bltn (v := .ty "list") (by rfl) B.list_ boot_list rfl) (pa_cons (pe_bltn (v := .ty "tuple") (by rfl) B.tuple_ boot_tuple rfl) pa_nil))) pa_nil)))) (pss_cons ps_never
      (pss_cons ps_never
      (pss_one ps_never))) pss_nil)
      (pss_cons (ps_if (pt_cmpR op_isN (pv 1) pe_non (nomark _)) (pss_one ps_never) pss_nil)
      (pss_cons (ps_if (pt_val (pe_callB (call_isD kit_str) (by rfl) B.isi boot_isinstance (pa_cons (pv 1) (pa_cons (pe_bltn (v := .ty "str") (by rfl) B.str_ boot_str rfl) pa_nil)))) (pss_one ps_never) pss_nil)
      (pss_one (ps_ret (pe_and (pe_callB (call_isD kit_int) (by rfl) B.isi boot_isinstance (pa_cons (pv 0) (pa_cons (pe_bltn (v := .ty "int") (by rfl) B.int_ boot_int rfl) pa_nil))) (pe_and (pe_cmpR op_eq (pe_callB (call_isD kit_bool) (by rfl) B.isi boot_isinstance (pa_cons (pv 0) (pa_cons (pe_bltn (v := .ty "bool") (by rfl) B.bool_ boot_bool rfl) pa_nil))) (pe_callB (call_isD kit_bool) (by rfl) B.isi boot_isinstance (pa_cons (pv 1) (pa_cons (pe_bltn (v := .ty "bool") (by rfl) B.bool_ boot_bool rfl) pa_nil))) (nomark _)) (pe_one (pe_cmpR op_eq (pv 0) (pv 1) (nomark _))))))))), ?_⟩
    refine ⟨.int j, rfl, show 2 ≤ sizeLine by decide, fun T nT => ⟨.int j, T, _, .type "int", [.type "list", .type "tuple"], false, rfl, upd_same, .cons (.ty _) (.cons (.ty _) .nil), .base (.int j), kit_int_lt, _, rfl, ?_⟩⟩
    refine iteF ?_
    refine ⟨.int j, rfl, rfl, _, rfl, ?_⟩
    rw [show decide (V.int j = V.non) = false from decide_eq_false (fun e => by cases e)]
    refine iteF ?_
    refine ⟨.int j, rfl, .int j, .int j, [], rfl, .int j, _, rfl, ?_⟩
    refine iteF ?_
    refine ⟨.int i, rfl, .int i, .int i, [], rfl, .int i, _, rfl, ?_⟩
    refine iteT ?_
    refine ⟨.int i, rfl, .int i, .int i, [], rfl, .int i, .int j, rfl, .int j, .int j, [], rfl, .int j, rfl, _, rfl, ?_⟩
    refine iteT ?_
    refine ⟨.int i, rfl, .int j, rfl, rfl, ?_⟩
    have e : decide (V.int i = V.int j) = decide (i = j) := by rw [Bool.eq_iff_iff]; simp
    rw [e]
    exact q _ (Keep.new nT)
end
end Rw

namespace Rw
open PySem PySem.Spec PyProof.Rows L2
section
variable {X : Cx}
/-! xs != [], xs == [], whatever is in xs -/
def rNilL (K : PySem.W.Frag) (neg : Bool) : R2 := fun x y H Q => ∃ a b xs, x = .ref a ∧ y = .ref b ∧ SqL K H a xs ∧ SqL K H b [] ∧ Q (.bl (if neg then !xs.isEmpty else xs.isEmpty)) H
theorem op_neNilL (hu : X.A.units < cLine) : OpR X (compareOp .NotEq) (rNilL X.K true) := by
  intro pins s σ H x y v u Q I rx ry h
  obtain ⟨a, b, xs, rfl, rfl, ha, hb, q⟩ := h
  cases rx
  cases ry
  obtain ⟨its, r, pl, _⟩ := I.list ha
  obtain ⟨its2, r2, pl2, _⟩ := I.list hb
  cases r2
  have fin : EP X pins σ Q (.bool (!xs.isEmpty)) s := ⟨.bl (!xs.isEmpty), H, I, rfl, q⟩
  cases r with
  | nil => exact SeqAt.RcNeAt.lists (A := X.A) (s := s) (e := fun _ => true) pl.isList pl2.isList rfl hu (fun j j1 _ => absurd j1 (Nat.not_lt_zero j)) X.prog X.w X.xe _ fin
  | cons _ _ => exact SeqAt.RcNeAt.lists_lengths (A := X.A) (s := s) pl.isList pl2.isList (by simp) hu X.prog X.w X.xe _ fin
theorem op_eqNilL (hu : X.A.units < cLine) : OpR X (compareOp .Eq) (rNilL X.K false) := by
  intro pins s σ H x y v u Q I rx ry h
  obtain ⟨a, b, xs, rfl, rfl, ha, hb, q⟩ := h
  cases rx
  cases ry
  obtain ⟨its, r, pl, _⟩ := I.list ha
  obtain ⟨its2, r2, pl2, _⟩ := I.list hb
  cases r2
  have fin : EP X pins σ Q (.bool xs.isEmpty) s := ⟨.bl xs.isEmpty, H, I, rfl, q⟩
  cases r with
  | nil => exact SeqAt.RcAt.lists (A := X.A) (s := s) (e := fun _ => true) pl.isList pl2.isList rfl hu (fun j j1 _ => absurd j1 (Nat.not_lt_zero j)) X.prog X.w X.xe _ fin
  | cons _ _ => exact SeqAt.RcAt.lists_lengths (A := X.A) (s := s) pl.isList pl2.isList (by simp) hu X.prog X.w X.xe _ fin
end
def FI (W : Addr) (H : Hp) (ok : Nat → Bool) (i : Nat) (J : Hp) : Prop := Keep [] H J ∧ ∃ ws, J W = some (.lst ws) ∧ ws.length ≤ i ∧ ws.isEmpty = (List.range i).all ok
theorem st {H : Hp} {p b : Addr} {o u : HO} (n : H p = none) (e : H b = some u) : (upd H p o) b = some u := by rw [upd_ne (ne_of_none e n)]; exact e
theorem FI.start {W : Addr} {H : Hp} {ok : Nat → Bool} (n : H W = none) : FI W H ok 0 (upd H W (.lst [])) := ⟨Keep.new n, [], upd_same, Nat.le_refl _, rfl⟩
theorem FI.skip {W : Addr} {H J : Hp} {ok : Nat → Bool} {i : Nat} (h : FI W H ok i J) (o : ok i = true) : FI W H ok (i + 1) J := by
  obtain ⟨k, ws, e, l, z⟩ := h
  refine ⟨k, ws, e, by omega, ?_⟩
  rw [List.range_succ, List.all_append, z, List.all_cons, o]; simp
theorem FI.put {W : Addr} {H J J2 : Hp} {ok : Nat → Bool} {i : Nat} {x : V} (h : FI W H ok i J) (k2 : Keep [] J J2) (n : H W = none) (hi : i ≤ 100000) (o : ok i = false) : ∃ acc, J2 W = some (.lst acc) ∧ acc.length < sizeLine ∧ FI W H ok (i + 1) (upd J2 W (.lst (acc ++ [x]))) := by
  obtain ⟨k, ws, e, l, z⟩ := h
  refine ⟨ws, k2.same W _ e, by rw [sizeLine_eq]; omega, (k.trans k2).upd n, ws ++ [x], upd_same, by rw [List.length_append, List.length_singleton]; omega, ?_⟩
  rw [List.range_succ, List.all_append, List.all_cons, o]
  cases ws <;> simp
theorem FI.go {W : Addr} {H J J2 : Hp} {ok : Nat → Bool} {i : Nat} (h : FI W H ok i J) (k2 : Keep [] J J2) : FI W H ok i J2 := by
  obtain ⟨k, ws, e, l, z⟩ := h
  exact ⟨k.trans k2, ws, k2.same W _ e, l, z⟩
/-! ### same, of the same data twice: numbers, truths, tuples and lists of these -/
theorem kit_lst_lt {K : PySem.W.Frag} : PySem.W.kitAny K (.type "list") [.type "list", .type "tuple"] = some true :=
  kitAny_cons (kit_ty (r := true) (by decide +kernel)) (fun e => by cases e) (fun _ => rfl)
theorem kit_bool_lt {K : PySem.W.Frag} : PySem.W.kitAny K (.type "bool") [.type "list", .type "tuple"] = some false :=
  kitAny_cons (kit_ty (r := false) (by decide +kernel)) (fun _ => kitAny_cons (kit_ty (r := false) (by decide +kernel)) (fun _ => rfl) (fun e => by cases e)) (fun e => by cases e)
inductive IB : Nat → PyData → Prop
  | int (m : Nat) (i : Int) : IB m (.int i)
  | bool (m : Nat) (b : Bool) : IB m (.bool b)
  | tup {m : Nat} {ds : List PyData} : ds.length ≤ 1000 → (∀ d ∈ ds, IB m d) → IB (m + 1) (.tuple ds)
  | lst {m : Nat} {ds : List PyData} : ds.length ≤ 1000 → (∀ d ∈ ds, IB m d) → IB (m + 1) (.list ds)
section
variable {P : Program} {w : World} {K : PySem.W.Frag} {mg : Str → Option Value} {base : Heap}
def spSameD (m : Nat) : Sp := fun vs H Q _ => ∃ (v u : V) (d : PyData), vs = [v, u] ∧ Dt [] H v d ∧ Dt [] H u d ∧ IB m d ∧ ∀ H', Keep [] H H' → Q (.bl true) H'
theorem ok_sameD (h : Has K mg "_law_same" sSame) (B : Blt mg) : ∀ m, Can P w K mg base "_law_same" ["_law_found", "_law_due"] (m + 1) (spSameD m) := by
  intro m
  induction m with
  | zero =>
    obtain ⟨f, fd, F, g⟩ := h
    refine ⟨f, fd, F.ok (k := 0) scSame (fun vs H Q E h => ?_) (fun cdv A outer s H vs Q E hr h => ?_), g, F.kp, F.binds fun _ _ _ _ _ _ us hl => match us, hl with | [_, _], _ => rfl⟩
    · obtain ⟨v, u, d, rfl, _⟩ := h
      rfl
    · obtain ⟨v, u, d, rfl, hv, hu, ib, q⟩ := h
      refine ⟨_, pss_cons (ps_if (pt_val (pe_callB call_isiT (by rfl) B.isi boot_isinstance (pa_cons (pv 1) (pa_cons (pe_tup (pa_cons (pe_bltn (v := .ty "list") (by rfl) B.list_ boot_list rfl) (pa_cons (pe_bltn (v := .ty "tuple") (by rfl) B.tuple_ boot_tuple rfl) pa_nil))) pa_nil)))) (pss_cons ps_never
      (pss_cons ps_never
      (pss_one ps_never))) pss_nil)
      (pss_cons (ps_if (pt_cmpR op_isN (pv 1) pe_non (nomark _)) (pss_one ps_never) pss_nil)
      (pss_cons (ps_if (pt_val (pe_callB (call_isD kit_str) (by rfl) B.isi boot_isinstance (pa_cons (pv 1) (pa_cons (pe_bltn (v := .ty "str") (by rfl) B.str_ boot_str rfl) pa_nil)))) (pss_one ps_never) pss_nil)
      (pss_one (ps_ret (pe_and (pe_callB (call_isD kit_int) (by rfl) B.isi boot_isinstance (pa_cons (pv 0) (pa_cons (pe_bltn (v := .ty "int") (by rfl) B.int_ boot_int rfl) pa_nil))) (pe_and (pe_cmpR op_eq (pe_callB (call_isD kit_bool) (by rfl) B.isi boot_isinstance (pa_cons (pv 0) (pa_cons (pe_bltn (v := .ty "bool") (by rfl) B.bool_ boot_bool rfl) pa_nil))) (pe_callB (call_isD kit_bool) (by rfl) B.isi boot_isinstance (pa_cons (pv 1) (pa_cons (pe_bltn (v := .ty "bool") (by rfl) B.bool_ boot_bool rfl) pa_nil))) (nomark _)) (pe_one (pe_cmpR op_eq (pv 0) (pv 1) (nomark _))))))))), ?_⟩
      cases ib with
      | int _ i =>
        cases hv; cases hu
        refine ⟨.int i, rfl, show 2 ≤ sizeLine by decide, fun T nT => ⟨.int i, T, _, .type "int", [.type "list", .type "tuple"], false, rfl, upd_same, .cons (.ty _) (.cons (.ty _) .nil), .base (.int i), kit_int_lt, _, rfl, ?_⟩⟩
        refine iteF ?_
        refine ⟨.int i, rfl, rfl, _, rfl, ?_⟩
        rw [show decide (V.int i = V.non) = false from decide_eq_false (fun e => by cases e)]
        refine iteF ?_
        refine ⟨.int i, rfl, .int i, .int i, [], rfl, .int i, _, rfl, iteF ?_⟩
        refine ⟨.int i, rfl, .int i, .int i, [], rfl, .int i, _, rfl, iteT ?_⟩
        refine ⟨.int i, rfl, .int i, .int i, [], rfl, .int i, .int i, rfl, .int i, .int i, [], rfl, .int i, rfl, _, rfl, ?_⟩
        refine iteT ?_
        refine ⟨.int i, rfl, .int i, rfl, rfl, ?_⟩
        rw [decide_eq_true (rfl : V.int i = V.int i)]
        exact q _ (Keep.new nT)
      | bool _ i =>
        cases hv; cases hu
        refine ⟨.bl i, rfl, show 2 ≤ sizeLine by decide, fun T nT => ⟨.bl i, T, _, .type "bool", [.type "list", .type "tuple"], false, rfl, upd_same, .cons (.ty _) (.cons (.ty _) .nil), .base (.bl i), kit_bool_lt, _, rfl, ?_⟩⟩
        refine iteF ?_
        refine ⟨.bl i, rfl, rfl, _, rfl, ?_⟩
        rw [show decide (V.bl i = V.non) = false from decide_eq_false (fun e => by cases e)]
        refine iteF ?_
        refine ⟨.bl i, rfl, .bl i, .bool i, [], rfl, .bl i, _, rfl, iteF ?_⟩
        refine ⟨.bl i, rfl, .bl i, .bool i, [], rfl, .bl i, _, rfl, iteT ?_⟩
        refine ⟨.bl i, rfl, .bl i, .bool i, [], rfl, .bl i, .bl i, rfl, .bl i, .bool i, [], rfl, .bl i, rfl, _, rfl, ?_⟩
        refine iteT ?_
        refine ⟨.bl i, rfl, .bl i, rfl, rfl, ?_⟩
        rw [decide_eq_true (rfl : V.bl i = V.bl i)]
        exact q _ (Keep.new nT)
  | succ m ih =>
    obtain ⟨f, fd, F, g⟩ := h
    refine ⟨f, fd, F.ok (k := m + 1) scSame (fun vs H Q E h => ?_) (fun cdv A outer s H vs Q E hr h => ?_), g, F.kp, F.binds fun _ _ _ _ _ _ us hl => match us, hl with | [_, _], _ => rfl⟩
    · obtain ⟨v, u, d, rfl, _⟩ := h
      rfl
    · obtain ⟨v, u, d, rfl, hv, hu, ib, q⟩ := h
      cases ib with
      | int _ i =>
        refine ⟨_, pss_cons (ps_if (pt_val (pe_callB call_isiT (by rfl) B.isi boot_isinstance (pa_cons (pv 1) (pa_cons (pe_tup (pa_cons (pe_bltn (v := .ty "list") (by rfl) B.list_ boot_list rfl) (pa_cons (pe_bltn (v := .ty "tuple") (by rfl) B.tuple_ boot_tuple rfl) pa_nil))) pa_nil)))) (pss_cons ps_never
      (pss_cons ps_never
      (pss_one ps_never))) pss_nil)
      (pss_cons (ps_if (pt_cmpR op_isN (pv 1) pe_non (nomark _)) (pss_one ps_never) pss_nil)
      (pss_cons (ps_if (pt_val (pe_callB (call_isD kit_str) (by rfl) B.isi boot_isinstance (pa_cons (pv 1) (pa_cons (pe_bltn (v := .ty "str") (by rfl) B.str_ boot_str rfl) pa_nil)))) (pss_one ps_never) pss_nil)
      (pss_one (ps_ret (pe_and (pe_callB (call_isD kit_int) (by rfl) B.isi boot_isinstance (pa_cons (pv 0) (pa_cons (pe_bltn (v := .ty "int") (by rfl) B.int_ boot_int rfl) pa_nil))) (pe_and (pe_cmpR op_eq (pe_callB (call_isD kit_bool) (by rfl) B.isi boot_isinstance (pa_cons (pv 0) (pa_cons (pe_bltn (v := .ty "bool") (by rfl) B.bool_ boot_bool rfl) pa_nil))) (pe_callB (call_isD kit_bool) (by rfl) B.isi boot_isinstance (pa_cons (pv 1) (pa_cons (pe_bltn (v := .ty "bool") (by rfl) B.bool_ boot_bool rfl) pa_nil))) (nomark _)) (pe_one (pe_cmpR op_eq (pv 0) (pv 1) (nomark _))))))))), ?_⟩
        cases hv; cases hu
        refine ⟨.int i, rfl, show 2 ≤ sizeLine by decide, fun T nT => ⟨.int i, T, _, .type "int", [.type "list", .type "tuple"], false, rfl, upd_same, .cons (.ty _) (.cons (.ty _) .nil), .base (.int i), kit_int_lt, _, rfl, ?_⟩⟩
        refine iteF ?_
        refine ⟨.int i, rfl, rfl, _, rfl, ?_⟩
        rw [show decide (V.int i = V.non) = false from decide_eq_false (fun e => by cases e)]
        refine iteF ?_
        refine ⟨.int i, rfl, .int i, .int i, [], rfl, .int i, _, rfl, iteF ?_⟩
        refine ⟨.int i, rfl, .int i, .int i, [], rfl, .int i, _, rfl, iteT ?_⟩
        refine ⟨.int i, rfl, .int i, .int i, [], rfl, .int i, .int i, rfl, .int i, .int i, [], rfl, .int i, rfl, _, rfl, ?_⟩
        refine iteT ?_
        refine ⟨.int i, rfl, .int i, rfl, rfl, ?_⟩
        rw [decide_eq_true (rfl : V.int i = V.int i)]
        exact q _ (Keep.new nT)
      | bool _ i =>
        refine ⟨_, pss_cons (ps_if (pt_val (pe_callB call_isiT (by rfl) B.isi boot_isinstance (pa_cons (pv 1) (pa_cons (pe_tup (pa_cons (pe_bltn (v := .ty "list") (by rfl) B.list_ boot_list rfl) (pa_cons (pe_bltn (v := .ty "tuple") (by rfl) B.tuple_ boot_tuple rfl) pa_nil))) pa_nil)))) (pss_cons ps_never
      (pss_cons ps_never
      (pss_one ps_never))) pss_nil)
      (pss_cons (ps_if (pt_cmpR op_isN (pv 1) pe_non (nomark _)) (pss_one ps_never) pss_nil)
      (pss_cons (ps_if (pt_val (pe_callB (call_isD kit_str) (by rfl) B.isi boot_isinstance (pa_cons (pv 1) (pa_cons (pe_bltn (v := .ty "str") (by rfl) B.str_ boot_str rfl) pa_nil)))) (pss_one ps_never) pss_nil)
      (pss_one (ps_ret (pe_and (pe_callB (call_isD kit_int) (by rfl) B.isi boot_isinstance (pa_cons (pv 0) (pa_cons (pe_bltn (v := .ty "int") (by rfl) B.int_ boot_int rfl) pa_nil))) (pe_and (pe_cmpR op_eq (pe_callB (call_isD kit_bool) (by rfl) B.isi boot_isinstance (pa_cons (pv 0) (pa_cons (pe_bltn (v := .ty "bool") (by rfl) B.bool_ boot_bool rfl) pa_nil))) (pe_callB (call_isD kit_bool) (by rfl) B.isi boot_isinstance (pa_cons (pv 1) (pa_cons (pe_bltn (v := .ty "bool") (by rfl) B.bool_ boot_bool rfl) pa_nil))) (nomark _)) (pe_one (pe_cmpR op_eq (pv 0) (pv 1) (nomark _))))))))), ?_⟩
        cases hv; cases hu
        refine ⟨.bl i, rfl, show 2 ≤ sizeLine by decide, fun T nT => ⟨.bl i, T, _, .type "bool", [.type "list", .type "tuple"], false, rfl, upd_same, .cons (.ty _) (.cons (.ty _) .nil), .base (.bl i), kit_bool_lt, _, rfl, ?_⟩⟩
        refine iteF ?_
        refine ⟨.bl i, rfl, rfl, _, rfl, ?_⟩
        rw [show decide (V.bl i = V.non) = false from decide_eq_false (fun e => by cases e)]
        refine iteF ?_
        refine ⟨.bl i, rfl, .bl i, .bool i, [], rfl, .bl i, _, rfl, iteF ?_⟩
        refine ⟨.bl i, rfl, .bl i, .bool i, [], rfl, .bl i, _, rfl, iteT ?_⟩
        refine ⟨.bl i, rfl, .bl i, .bool i, [], rfl, .bl i, .bl i, rfl, .bl i, .bool i, [], rfl, .bl i, rfl, _, rfl, ?_⟩
        refine iteT ?_
        refine ⟨.bl i, rfl, .bl i, rfl, rfl, ?_⟩
        rw [decide_eq_true (rfl : V.bl i = V.bl i)]
        exact q _ (Keep.new nT)
      | tup ln hd =>
        rename_i ds
        have C0 := ih
        refine ⟨_, pss_cons (ps_if (pt_val (pe_callB call_isiT (by rfl) B.isi boot_isinstance (pa_cons (pv 1) (pa_cons (pe_tup (pa_cons (pe_bltn (v := .ty "list") (by rfl) B.list_ boot_list rfl) (pa_cons (pe_bltn (v := .ty "tuple") (by rfl) B.tuple_ boot_tuple rfl) pa_nil))) pa_nil)))) (pss_cons (ps_if (PW.pt (pw_or (pt_cmpR op_ne (pe_callB (call_isD kit_lst) (by rfl) B.isi boot_isinstance (pa_cons (pv 0) (pa_cons (pe_bltn (v := .ty "list") (by rfl) B.list_ boot_list rfl) pa_nil))) (pe_callB (call_isD kit_lst) (by rfl) B.isi boot_isinstance (pa_cons (pv 1) (pa_cons (pe_bltn (v := .ty "list") (by rfl) B.list_ boot_list rfl) pa_nil))) (nomark _)) (pw_or1 (pt_cmpR op_ne (pe_callB (call_isD kit_tup) (by rfl) B.isi boot_isinstance (pa_cons (pv 0) (pa_cons (pe_bltn (v := .ty "tuple") (by rfl) B.tuple_ boot_tuple rfl) pa_nil))) (pe_callB (call_isD kit_tup) (by rfl) B.isi boot_isinstance (pa_cons (pv 1) (pa_cons (pe_bltn (v := .ty "tuple") (by rfl) B.tuple_ boot_tuple rfl) pa_nil))) (nomark _))))) (pss_one (ps_ret pe_bl)) pss_nil)
      (pss_cons (ps_if (pt_cmpR op_ne (pe_callB call_len_seq (by rfl) B.len_ PySem.boot_len (pa_cons (pv 0) pa_nil)) (pe_callB call_len_seq (by rfl) B.len_ PySem.boot_len (pa_cons (pv 1) pa_nil)) (nomark _)) (pss_one (ps_ret pe_bl)) pss_nil)
      (pss_one (ps_ret (pe_cmpR (op_eqNilL hr.units0) (pe_lc (own := [("_law_k", 2)]) (g := gName 2) rfl scSame.nd (pi_range1 (by rfl) B.range_ (pa_cons (pe_callB call_len_seq (by rfl) B.len_ PySem.boot_len (pa_cons (pv 1) pa_nil)) pa_nil)) (blkOk_by (N := nSame) (sc := defScope sSame) (by decide +kernel)) (fun _ _ _ _ _ => pg_name (i := 2) scSame.nd rfl (Or.inl rfl)) (fun _ _ _ _ _ => pts_one (pt_not (pt_val (pe_can C0 hr (by rfl) (pa_cons (pe_ix (ix_tupK (K := K) rfl) (pv 0) (pv 2) (fun _ _ => rfl)) (pa_cons (pe_ix (ix_tupK (K := K) rfl) (pv 1) (pv 2) (fun _ _ => rfl)) pa_nil)))))) (fun _ _ _ _ _ => (pv 2))) (pe_lst pa_nil) (nomark _)))))) pss_nil)
      (pss_cons ps_never
      (pss_cons ps_never
      (pss_one ps_never))), ?_⟩
        cases hv with
        | tup n1 ea da =>
          rename_i a xs
          cases hu with
          | tup n2 eb db =>
            rename_i b ys
            have la := da.len
            have lb := db.len
            refine ⟨.ref b, rfl, show 2 ≤ sizeLine by decide, fun T nT => ⟨.ref b, T, _, .type "tuple", [.type "list", .type "tuple"], true, rfl, upd_same, .cons (.ty _) (.cons (.ty _) .nil), .base (.tup (st nT eb)), kit_tup_lt, _, rfl, iteT ?_⟩⟩
            have kT : Keep [] H (upd H T (.tup [.ty "list", .ty "tuple"])) := Keep.new nT
            have ea' := kT a _ ea List.not_mem_nil
            have eb' := kT b _ eb List.not_mem_nil
            have da' := da.keep kT
            have db' := db.keep kT
            have A : Dt [] (upd H T (.tup [.ty "list", .ty "tuple"])) (.ref a) (.tuple ds) := .tup List.not_mem_nil ea' da'
            have Bb : Dt [] (upd H T (.tup [.ty "list", .ty "tuple"])) (.ref b) (.tuple ds) := .tup List.not_mem_nil eb' db'
            generalize upd H T (.tup [.ty "list", .ty "tuple"]) = G at ea' eb' kT da' db' A Bb
            refine ⟨.ref a, rfl, _, _, [], rfl, A, .ref b, rfl, _, _, [], rfl, Bb, rfl, _, rfl, iteF ?_⟩
            refine ⟨.ref a, rfl, _, _, [], rfl, A, .ref b, rfl, _, _, [], rfl, Bb, rfl, _, rfl, iteF ?_⟩
            refine ⟨.ref a, rfl, a, _, rfl, .inr (SqT.of ea'), .ref b, rfl, b, _, rfl, .inr (SqT.of eb'), rfl, _, rfl, ?_⟩
            rw [la, lb]
            refine iteNS rfl ?_
            refine ⟨.ref b, rfl, b, _, rfl, .inr (SqT.of eb'), _, rfl, by omega, by omega, fun W nW => ?_⟩
            refine lc_range (lo := 0) (n := ((ys.length : Int)).toNat) (FI W G fun k => true) (FI.start nW) (fun j J hj p => ?_) (fun J p => ?_)
            · have lj : j < ds.length := by omega
              have gd : ds[j]? = some ds[j] := List.getElem?_eq_getElem lj
              obtain ⟨va, gva, dva⟩ := da'.get j gd
              obtain ⟨vb, gvb, dvb⟩ := db'.get j gd
              have ea5 := p.1.same a _ ea'
              have eb5 := p.1.same b _ eb'
              refine ⟨rfl, .ref a, rfl, .int (0 + (j : Int)), rfl, a, _, 0 + (j : Int), va, rfl, rfl, SqT.of ea5, atI_of (by omega) (by rw [show (0 + (j : Int)).toNat = j by omega]; exact gva), .ref b, rfl, .int (0 + (j : Int)), rfl, b, _, 0 + (j : Int), vb, rfl, rfl, SqT.of eb5, atI_of (by omega) (by rw [show (0 + (j : Int)).toNat = j by omega]; exact gvb), va, vb, ds[j], rfl, dva.keep p.1, dvb.keep p.1, hd _ (List.getElem_mem lj), fun J2 k2 => ⟨_, rfl, iteF ?_⟩⟩
              exact (p.go k2).skip rfl
            · obtain ⟨k3, ws, ew, lw, zw⟩ := p
              refine ⟨show 0 ≤ sizeLine by decide, fun z nz => ?_⟩
              refine ⟨W, z, ws, rfl, rfl, SqL.of (st nz ew), SqL.of upd_same, ?_⟩
              have e : ws.isEmpty = true := by rw [zw]; exact List.all_eq_true.mpr fun _ _ => rfl
              have := q _ ((kT.trans k3).trans (Keep.new (o := .lst []) nz))
              rw [← e] at this
              exact this
      | lst ln hd =>
        rename_i ds
        have C0 := ih
        refine ⟨_, pss_cons (ps_if (pt_val (pe_callB call_isiT (by rfl) B.isi boot_isinstance (pa_cons (pv 1) (pa_cons (pe_tup (pa_cons (pe_bltn (v := .ty "list") (by rfl) B.list_ boot_list rfl) (pa_cons (pe_bltn (v := .ty "tuple") (by rfl) B.tuple_ boot_tuple rfl) pa_nil))) pa_nil)))) (pss_cons (ps_if (PW.pt (pw_or (pt_cmpR op_ne (pe_callB (call_isD kit_lst) (by rfl) B.isi boot_isinstance (pa_cons (pv 0) (pa_cons (pe_bltn (v := .ty "list") (by rfl) B.list_ boot_list rfl) pa_nil))) (pe_callB (call_isD kit_lst) (by rfl) B.isi boot_isinstance (pa_cons (pv 1) (pa_cons (pe_bltn (v := .ty "list") (by rfl) B.list_ boot_list rfl) pa_nil))) (nomark _)) (pw_or1 (pt_cmpR op_ne (pe_callB (call_isD kit_tup) (by rfl) B.isi boot_isinstance (pa_cons (pv 0) (pa_cons (pe_bltn (v := .ty "tuple") (by rfl) B.tuple_ boot_tuple rfl) pa_nil))) (pe_callB (call_isD kit_tup) (by rfl) B.isi boot_isinstance (pa_cons (pv 1) (pa_cons (pe_bltn (v := .ty "tuple") (by rfl) B.tuple_ boot_tuple rfl) pa_nil))) (nomark _))))) (pss_one (ps_ret pe_bl)) pss_nil)
      (pss_cons (ps_if (pt_cmpR op_ne (pe_callB call_len_seq (by rfl) B.len_ PySem.boot_len (pa_cons (pv 0) pa_nil)) (pe_callB call_len_seq (by rfl) B.len_ PySem.boot_len (pa_cons (pv 1) pa_nil)) (nomark _)) (pss_one (ps_ret pe_bl)) pss_nil)
      (pss_one (ps_ret (pe_cmpR (op_eqNilL hr.units0) (pe_lc (own := [("_law_k", 2)]) (g := gName 2) rfl scSame.nd (pi_range1 (by rfl) B.range_ (pa_cons (pe_callB call_len_seq (by rfl) B.len_ PySem.boot_len (pa_cons (pv 1) pa_nil)) pa_nil)) (blkOk_by (N := nSame) (sc := defScope sSame) (by decide +kernel)) (fun _ _ _ _ _ => pg_name (i := 2) scSame.nd rfl (Or.inl rfl)) (fun _ _ _ _ _ => pts_one (pt_not (pt_val (pe_can C0 hr (by rfl) (pa_cons (pe_ix (ix_listK (K := K) rfl) (pv 0) (pv 2) (fun _ _ => rfl)) (pa_cons (pe_ix (ix_listK (K := K) rfl) (pv 1) (pv 2) (fun _ _ => rfl)) pa_nil)))))) (fun _ _ _ _ _ => (pv 2))) (pe_lst pa_nil) (nomark _)))))) pss_nil)
      (pss_cons ps_never
      (pss_cons ps_never
      (pss_one ps_never))), ?_⟩
        cases hv with
        | lst n1 ea da =>
          rename_i a xs
          cases hu with
          | lst n2 eb db =>
            rename_i b ys
            have la := da.len
            have lb := db.len
            refine ⟨.ref b, rfl, show 2 ≤ sizeLine by decide, fun T nT => ⟨.ref b, T, _, .type "list", [.type "list", .type "tuple"], true, rfl, upd_same, .cons (.ty _) (.cons (.ty _) .nil), .base (.lst (st nT eb)), kit_lst_lt, _, rfl, iteT ?_⟩⟩
            have kT : Keep [] H (upd H T (.tup [.ty "list", .ty "tuple"])) := Keep.new nT
            have ea' := kT a _ ea List.not_mem_nil
            have eb' := kT b _ eb List.not_mem_nil
            have da' := da.keep kT
            have db' := db.keep kT
            have A : Dt [] (upd H T (.tup [.ty "list", .ty "tuple"])) (.ref a) (.list ds) := .lst List.not_mem_nil ea' da'
            have Bb : Dt [] (upd H T (.tup [.ty "list", .ty "tuple"])) (.ref b) (.list ds) := .lst List.not_mem_nil eb' db'
            generalize upd H T (.tup [.ty "list", .ty "tuple"]) = G at ea' eb' kT da' db' A Bb
            refine ⟨.ref a, rfl, _, _, [], rfl, A, .ref b, rfl, _, _, [], rfl, Bb, rfl, _, rfl, iteF ?_⟩
            refine ⟨.ref a, rfl, _, _, [], rfl, A, .ref b, rfl, _, _, [], rfl, Bb, rfl, _, rfl, iteF ?_⟩
            refine ⟨.ref a, rfl, a, _, rfl, .inl (SqL.of ea'), .ref b, rfl, b, _, rfl, .inl (SqL.of eb'), rfl, _, rfl, ?_⟩
            rw [la, lb]
            refine iteNS rfl ?_
            refine ⟨.ref b, rfl, b, _, rfl, .inl (SqL.of eb'), _, rfl, by omega, by omega, fun W nW => ?_⟩
            refine lc_range (lo := 0) (n := ((ys.length : Int)).toNat) (FI W G fun k => true) (FI.start nW) (fun j J hj p => ?_) (fun J p => ?_)
            · have lj : j < ds.length := by omega
              have gd : ds[j]? = some ds[j] := List.getElem?_eq_getElem lj
              obtain ⟨va, gva, dva⟩ := da'.get j gd
              obtain ⟨vb, gvb, dvb⟩ := db'.get j gd
              have ea5 := p.1.same a _ ea'
              have eb5 := p.1.same b _ eb'
              refine ⟨rfl, .ref a, rfl, .int (0 + (j : Int)), rfl, a, _, 0 + (j : Int), va, rfl, rfl, SqL.of ea5, atI_of (by omega) (by rw [show (0 + (j : Int)).toNat = j by omega]; exact gva), .ref b, rfl, .int (0 + (j : Int)), rfl, b, _, 0 + (j : Int), vb, rfl, rfl, SqL.of eb5, atI_of (by omega) (by rw [show (0 + (j : Int)).toNat = j by omega]; exact gvb), va, vb, ds[j], rfl, dva.keep p.1, dvb.keep p.1, hd _ (List.getElem_mem lj), fun J2 k2 => ⟨_, rfl, iteF ?_⟩⟩
              exact (p.go k2).skip rfl
            · obtain ⟨k3, ws, ew, lw, zw⟩ := p
              refine ⟨show 0 ≤ sizeLine by decide, fun z nz => ?_⟩
              refine ⟨W, z, ws, rfl, rfl, SqL.of (st nz ew), SqL.of upd_same, ?_⟩
              have e : ws.isEmpty = true := by rw [zw]; exact List.all_eq_true.mpr fun _ _ => rfl
              have := q _ ((kT.trans k3).trans (Keep.new (o := .lst []) nz))
              rw [← e] at this
              exact this
end
end Rw

namespace Rw
open PySem PySem.Spec PyProof.Rows L2
/-! ### the program's own defs -/
section
variable {P : Program} {w : World} {K : PySem.W.Frag} {mg : Str → Option Value} {base : Heap}
abbrev sWhole : Stmt := topS 23
abbrev sWithin : Stmt := topS 24
abbrev sTupOf : Stmt := topS 26
abbrev sPlaceP : Stmt := topS 28
def whole : PyData → Bool
  | .int _ => true
  | _ => false
def within (d : PyData) (lo hi : Int) : Bool := match d with
  | .int i => decide (lo ≤ i) && decide (i ≤ hi)
  | _ => false
def tupOf (d : PyData) (n : Int) : Bool := match d with
  | .tuple ds => decide ((ds.length : Int) = n)
  | _ => false
theorem scWhole : FnScope ["thing"] ["thing"] (defScope sWhole) := ⟨rfl, rfl, rfl, by decide +kernel, rfl, by decide +kernel, by decide +kernel⟩
theorem scWithin : FnScope ["thing", "low", "high"] ["thing", "low", "high"] (defScope sWithin) := ⟨rfl, rfl, rfl, by decide +kernel, rfl, by decide +kernel, by decide +kernel⟩
theorem scTupOf : FnScope ["thing", "many"] ["thing", "many"] (defScope sTupOf) := ⟨rfl, rfl, rfl, by decide +kernel, rfl, by decide +kernel, by decide +kernel⟩
def spWhole : Sp := fun vs H Q _ => ∃ (v : V) (d : PyData) (av : List Addr), vs = [v] ∧ Dt av H v d ∧ Q (.bl (whole d)) H
theorem ok_whole (h : Has K mg "is_whole" sWhole) (B : Blt mg) : Can P w K mg base "is_whole" ["thing"] 1 spWhole := by
  obtain ⟨f, fd, F, g⟩ := h
  refine ⟨f, fd, F.ok (k := 0) scWhole (fun vs H Q E h => ?_) (fun cdv A outer s H vs Q E hr h => ?_), g, F.kp, F.binds fun _ _ _ _ _ _ us hl => match us, hl with | [_], _ => rfl⟩
  · obtain ⟨v, d, av, rfl, _⟩ := h
    rfl
  · obtain ⟨v, d, av, rfl, hd, q⟩ := h
    refine ⟨_, pss_one (ps_ret (pe_and (pe_callB (call_isD kit_int) (by rfl) B.isi boot_isinstance (pa_cons (pv 0) (pa_cons (pe_bltn (v := .ty "int") (by rfl) B.int_ boot_int rfl) pa_nil)))
      (pe_one (pe_not (pe_callB (call_isD kit_bool) (by rfl) B.isi boot_isinstance (pa_cons (pv 0) (pa_cons (pe_bltn (v := .ty "bool") (by rfl) B.bool_ boot_bool rfl) pa_nil))))))), ?_⟩
    refine ⟨v, rfl, v, d, av, rfl, hd, _, rfl, ite2 (fun e => ?_) (fun e => ?_)⟩
    · refine ⟨v, rfl, v, d, av, rfl, hd, _, rfl, ?_⟩
      have z : (!aBool d) = whole d := by cases d <;> first | rfl | cases e
      rw [z]; exact q
    · have z : false = whole d := by cases d <;> first | rfl | exact absurd rfl e
      rw [z]; exact q
def spWithin : Sp := fun vs H Q _ => ∃ (v : V) (d : PyData) (av : List Addr) (lo hi : Int), vs = [v, .int lo, .int hi] ∧ Dt av H v d ∧ Q (.bl (within d lo hi)) H
theorem ok_within (h : Has K mg "is_within" sWithin) (C : Can P w K mg base "is_whole" ["thing"] 1 spWhole) : Can P w K mg base "is_within" ["thing", "low", "high"] 2 spWithin := by
  obtain ⟨f, fd, F, g⟩ := h
  refine ⟨f, fd, F.ok (k := 1) scWithin (fun vs H Q E h => ?_) (fun cdv A outer s H vs Q E hr h => ?_), g, F.kp, F.binds fun _ _ _ _ _ _ us hl => match us, hl with | [_, _, _], _ => rfl⟩
  · obtain ⟨v, d, av, lo, hi, rfl, _⟩ := h
    rfl
  · obtain ⟨v, d, av, lo, hi, rfl, hd, q⟩ := h
    refine ⟨_, pss_one (ps_ret (pe_and (pe_can C hr (by rfl) (pa_cons (pv 0) pa_nil)) (pe_one (pe_chain op_le op_le (pv 1) (pv 0) (pv 2))))), ?_⟩
    refine ⟨v, rfl, v, d, av, rfl, hd, _, rfl, ite2 (fun e => ?_) (fun e => ?_)⟩
    · cases hd <;> first | (cases e; done) | skip
      rename_i i
      refine ⟨.int lo, rfl, .int i, rfl, lo, i, rfl, rfl, _, rfl, ite2 (fun e1 => ?_) (fun e1 => ?_)⟩
      · refine ⟨.int hi, rfl, i, hi, rfl, rfl, ?_⟩
        have z : decide (i ≤ hi) = within (.int i) lo hi := by
          show _ = (decide (lo ≤ i) && decide (i ≤ hi))
          rw [e1, Bool.true_and]
        rw [← z] at q; exact q
      · have z : false = within (.int i) lo hi := by
          show _ = (decide (lo ≤ i) && decide (i ≤ hi))
          rw [show decide (lo ≤ i) = false from Bool.eq_false_iff.mpr e1, Bool.false_and]
        rw [z]; exact q
    · have z : false = within d lo hi := by cases d <;> first | rfl | exact absurd rfl e
      rw [z]; exact q
def spTupOf : Sp := fun vs H Q _ => ∃ (v : V) (d : PyData) (av : List Addr) (n : Int), vs = [v, .int n] ∧ Dt av H v d ∧ Q (.bl (tupOf d n)) H
theorem ok_tupOf (h : Has K mg "is_tuple_of" sTupOf) (B : Blt mg) : Can P w K mg base "is_tuple_of" ["thing", "many"] 1 spTupOf := by
  obtain ⟨f, fd, F, g⟩ := h
  refine ⟨f, fd, F.ok (k := 0) scTupOf (fun vs H Q E h => ?_) (fun cdv A outer s H vs Q E hr h => ?_), g, F.kp, F.binds fun _ _ _ _ _ _ us hl => match us, hl with | [_, _], _ => rfl⟩
  · obtain ⟨v, d, av, n, rfl, _⟩ := h
    rfl
  · obtain ⟨v, d, av, n, rfl, hd, q⟩ := h
    refine ⟨_, pss_one (ps_ret (pe_and (pe_callB (call_isD kit_tup) (by rfl) B.isi boot_isinstance (pa_cons (pv 0) (pa_cons (pe_bltn (v := .ty "tuple") (by rfl) B.tuple_ boot_tuple rfl) pa_nil)))
      (pe_one (pe_cmpR op_eq (pe_callB call_len_seq (by rfl) B.len_ PySem.boot_len (pa_cons (pv 0) pa_nil)) (pv 1) (nomark _))))), ?_⟩
    refine ⟨v, rfl, v, d, av, rfl, hd, _, rfl, ite2 (fun e => ?_) (fun e => ?_)⟩
    · cases hd <;> first | (cases e; done) | skip
      rename_i a xs ds na ea hs
      refine ⟨.ref a, rfl, a, xs, rfl, .inr (SqT.of ea), .int n, rfl, rfl, ?_⟩
      have z : decide (V.int (xs.length : Int) = V.int n) = tupOf (.tuple ds) n := by
        show _ = decide ((ds.length : Int) = n)
        rw [hs.len]
        exact decide_eq_decide.mpr ⟨fun y => V.int.inj y, fun y => by rw [y]⟩
      rw [z]; exact q
    · have z : false = tupOf d n := by cases d <;> first | rfl | exact absurd rfl e
      rw [z]; exact q
end
def isPlace (n : Int) (ps : List PyData) : PyData → Bool
  | .tuple [x] => within x 0 (n - 1)
  | .tuple [.int p, y] => within (.int p) 0 ((ps.length : Int) - 1) && within y 1 (lenOf (ps.getD p.toNat .none) - 1)
  | _ => false
section
variable {P : Program} {w : World} {K : PySem.W.Frag} {mg : Str → Option Value} {base : Heap}
theorem scPlaceP : FnScope ["house", "thing", "rooms", "pipes"] ["house", "thing"] (defScope sPlaceP) := ⟨rfl, rfl, rfl, by decide +kernel, rfl, by decide +kernel, by decide +kernel⟩
def spPlaceP : Sp := fun vs H Q _ => ∃ (h v : V) (n : Int) (ps : List PyData) (d : PyData) (a1 a2 : List Addr), vs = [h, v] ∧ Dt a1 H h (houseD n ps) ∧ PipesOk ps ∧ Dt a2 H v d ∧ Q (.bl (isPlace n ps d)) H
/-! the length of the pipe at a place of the list -/
theorem pipe_at {a1 : List Addr} {H : Hp} {xs : List V} {ps : List PyData} (hs : Dts a1 H xs ps) (hp : PipesOk ps) {i : Nat} (hi : i < ps.length) :
    ∃ pa ys, xs[i]? = some (.ref pa) ∧ H pa = some (.tup ys) ∧ ys[2]? = some (.int (lenOf (ps.getD i .none))) := by
  have e : ps[i]? = some ps[i] := List.getElem?_eq_getElem hi
  obtain ⟨v, ev, dv⟩ := hs.get i e
  obtain ⟨a, b, l, r, ep⟩ := hp ps[i] (List.getElem_mem hi)
  have eg : ps.getD i .none = .tuple (a :: b :: .int l :: r) := by
    rw [List.getD_eq_getElem?_getD, e, ← ep]; rfl
  rw [ep] at dv
  cases dv with
  | tup na ea da =>
    obtain ⟨u, eu, du⟩ := da.get 2 (d := .int l) rfl
    cases du
    refine ⟨_, _, ev, ea, ?_⟩
    rw [eg]; exact eu
theorem ok_placeP (h : Has K mg "is_place" sPlaceP) (B : Blt mg) (CT : Can P w K mg base "is_tuple_of" ["thing", "many"] 1 spTupOf) (CW : Can P w K mg base "is_within" ["thing", "low", "high"] 2 spWithin) :
    Can P w K mg base "is_place" ["house", "thing"] 3 spPlaceP := by
  obtain ⟨f, fd, F, g⟩ := h
  refine ⟨f, fd, F.ok (k := 2) scPlaceP (fun vs H Q E h => ?_) (fun cdv A outer s H vs Q E hr h => ?_), g, F.kp, F.binds fun _ _ _ _ _ _ us hl => match us, hl with | [_, _], _ => rfl⟩
  · obtain ⟨h, v, n, ps, d, a1, a2, rfl, _⟩ := h
    rfl
  · obtain ⟨h, v, n, ps, d, a1, a2, rfl, hh, hp, hd, q⟩ := h
    refine ⟨_, pss_cons (ps_asg (pv 0) (pg_tup (by rfl) (pgs_cons (pg_name (i := 2) scPlaceP.nd rfl (.inl rfl)) (pgs_cons (pg_name (i := 3) scPlaceP.nd rfl (.inl rfl)) pgs_nil))))
      (pss_cons (ps_if (pt_val (pe_can CT (hr.mono (by decide)) (by rfl) (pa_cons (pv 1) (pa_cons pe_int pa_nil))))
        (pss_one (ps_ret (pe_can CW hr (by rfl) (pa_cons (pe_ix ix_tup (pv 1) pe_int (fun _ _ => rfl)) (pa_cons pe_int (pa_cons (pe_op op_sub (pv 2) pe_int) pa_nil)))))) pss_nil)
      (pss_cons (ps_if (PW.pt (pw_or (pt_not (pt_val (pe_can CT (hr.mono (by decide)) (by rfl) (pa_cons (pv 1) (pa_cons pe_int pa_nil)))))
          (pw_or1 (pt_not (pt_val (pe_can CW hr (by rfl) (pa_cons (pe_ix ix_tup (pv 1) pe_int (fun _ _ => rfl)) (pa_cons pe_int (pa_cons (pe_op op_sub (pe_callB call_len_seq (by rfl) B.len_ PySem.boot_len (pa_cons (pv 3) pa_nil)) pe_int) pa_nil)))))))))
        (pss_one (ps_ret pe_bl)) pss_nil)
      (pss_one (ps_ret (pe_can CW hr (by rfl) (pa_cons (pe_ix ix_tup (pv 1) pe_int (fun _ _ => rfl)) (pa_cons pe_int (pa_cons (pe_op op_sub (pe_ix ix_tup (pe_ix ix_tup (pv 3) (pe_ix ix_tup (pv 1) pe_int (fun _ _ => rfl)) (fun _ _ => rfl)) pe_int (fun _ _ => rfl)) pe_int) pa_nil)))))))), ?_⟩
    cases hh with
    | tup na ea da =>
      rename_i ah xh
      cases da with
      | cons d1 da =>
        cases d1
        cases da with
        | cons d2 da =>
          cases da
          cases d2 with
          | tup nb eb db =>
            rename_i ap xp
            refine ⟨.ref ah, rfl, ah, [.int n, .ref ap], rfl, SqT.of ea, rfl, _, _, rfl, _, [], rfl, rfl, ?_⟩
            refine ⟨v, rfl, v, d, a2, 1, rfl, hd, _, rfl, ite2 (fun e => ?_) (fun e => ?_)⟩
            · -- one part
              cases hd <;> first | (cases e; done) | skip
              rename_i a xs ds na' ea' hs
              have e1 : (ds.length : Int) = 1 := of_decide_eq_true e
              obtain ⟨x, rfl⟩ : ∃ x, ds = [x] := by
                cases ds with
                | nil => exact absurd e1 (by decide)
                | cons x r => cases r with
                  | nil => exact ⟨x, rfl⟩
                  | cons y r => exact absurd e1 (by rw [List.length_cons, List.length_cons]; omega)
              obtain ⟨y, ey, dy⟩ := hs.get 0 (d := x) rfl
              refine ⟨.ref a, rfl, a, xs, 0, y, rfl, rfl, SqT.of ea', atI_nat (j := 0) ey, .int n, rfl, n, 1, rfl, rfl, y, x, a2, 0, n - 1, rfl, dy, ?_⟩
              exact q
            · refine ⟨v, rfl, v, d, a2, 2, rfl, hd, _, rfl, ite2 (fun e2 => ?_) (fun e2 => ?_)⟩
              · have z : false = isPlace n ps d := by
                  cases d <;> first | rfl | skip
                  rename_i ds
                  cases ds with
                  | nil => rfl
                  | cons x r => cases r with
                    | nil => exact absurd rfl e
                    | cons y r => cases r with
                      | nil => cases e2
                      | cons _ _ => cases x <;> rfl
                rw [← z] at q; exact q
              · have e2' : tupOf d 2 = true := by
                  cases hq : tupOf d 2 with
                  | true => rfl
                  | false => rw [hq] at e2; exact absurd rfl e2
                cases hd <;> first | (cases e2'; done) | skip
                rename_i a xs ds na' ea' hs
                have e1 : (ds.length : Int) = 2 := of_decide_eq_true e2'
                obtain ⟨x, y, rfl⟩ : ∃ x y, ds = [x, y] := by
                  match ds, e1 with
                  | [x, y], _ => exact ⟨x, y, rfl⟩
                  | [], e => exact absurd e (by decide)
                  | [_], e => simp at e
                  | _ :: _ :: _ :: _, e => rw [List.length_cons, List.length_cons, List.length_cons] at e; omega
                obtain ⟨vx, ex, dx⟩ := hs.get 0 (d := x) rfl
                obtain ⟨vy, ey, dy⟩ := hs.get 1 (d := y) rfl
                refine ⟨.ref a, rfl, a, xs, 0, vx, rfl, rfl, SqT.of ea', atI_nat (j := 0) ex, .ref ap, rfl, ap, xp, rfl, .inr (SqT.of eb), _, 1, rfl, rfl, vx, x, a2, 0, _, rfl, dx, _, rfl, ite2 (fun e3 => ?_) (fun e3 => ?_)⟩
                · have z : false = isPlace n ps (.tuple [x, y]) := by
                    cases x <;> first | rfl | skip
                    rename_i i
                    rw [db.len] at e3
                    show _ = (within (.int i) 0 ((ps.length : Int) - 1) && _)
                    rw [(Bool.not_eq_true' _).mp e3]; rfl
                  rw [← z] at q; exact q
                · rw [db.len] at e3
                  have e4 : within x 0 ((ps.length : Int) - 1) = true := by
                    cases hq : within x 0 ((ps.length : Int) - 1) with
                    | true => rfl
                    | false => rw [hq] at e3; exact absurd rfl e3
                  cases dx <;> first | (cases e4; done) | skip
                  rename_i i
                  have b1 : 0 ≤ i ∧ i ≤ (ps.length : Int) - 1 := by
                    have := (Bool.and_eq_true _ _).mp (show (decide (0 ≤ i) && decide (i ≤ (ps.length : Int) - 1)) = true from e4)
                    exact ⟨of_decide_eq_true this.1, of_decide_eq_true this.2⟩
                  obtain ⟨pa, ys, g1, g2, g3⟩ := pipe_at db hp (i := i.toNat) (by omega)
                  have ei : ((i.toNat : Nat) : Int) = i := by omega
                  refine ⟨.ref a, rfl, a, xs, 1, vy, rfl, rfl, SqT.of ea', atI_nat (j := 1) ey, .ref ap, rfl, .ref a, rfl, a, xs, 0, .int i, rfl, rfl, SqT.of ea', atI_nat (j := 0) ex, ap, xp, i, .ref pa, rfl, rfl, SqT.of eb, ?_, pa, ys, 2, _, rfl, rfl, SqT.of g2, atI_nat (j := 2) g3, _, 1, rfl, rfl, vy, y, a2, 1, _, rfl, dy, ?_⟩
                  · rw [← ei]; exact atI_nat g1
                  · have z : within y 1 (lenOf (ps.getD i.toNat .none) - 1) = isPlace n ps (.tuple [.int i, y]) := by
                      show _ = (within (.int i) 0 ((ps.length : Int) - 1) && within y 1 (lenOf (ps.getD i.toNat .none) - 1))
                      rw [e4, Bool.true_and]
                    rw [← z] at q; exact q
end
theorem pis_ok (ps : List Pi) : PipesOk (ps.map Pi.dat) := fun p hp => by
  obtain ⟨q, _, rfl⟩ := List.mem_map.mp hp
  exact ⟨_, _, _, _, rfl⟩
theorem ok_isPlace {n : Int} {ps : List Pi} {p : Pl} (h : okP n ps p) : isPlace n (ps.map Pi.dat) (tupI p) = true := by
  rcases ok_cases h with ⟨r, rfl, r0, r1⟩ | ⟨i, a, rfl, h0, h1, a0, a1⟩
  · show (decide (0 ≤ r) && decide (r ≤ n - 1)) = true
    rw [decide_eq_true r0, decide_eq_true (show r ≤ n - 1 by omega)]; rfl
  · have el : lenOf ((ps.map Pi.dat).getD i.toNat .none) = (pr ps i).l := by
      rw [List.getD_eq_getElem?_getD, List.getElem?_map, (pr_mem h0 h1).2]; rfl
    show ((decide (0 ≤ i) && decide (i ≤ ((ps.map Pi.dat).length : Int) - 1)) && (decide (1 ≤ a) && decide (a ≤ lenOf ((ps.map Pi.dat).getD i.toNat .none) - 1))) = true
    rw [el, List.length_map, decide_eq_true h0, decide_eq_true (show i ≤ (ps.length : Int) - 1 by omega), decide_eq_true a0, decide_eq_true a1]; rfl
end Rw

namespace Rw
open PySem PySem.Spec PyProof.Rows L2
/-! ### the name of a place along a pipe -/
section
variable {P : Program} {w : World} {K : PySem.W.Frag} {mg : Str → Option Value} {base : Heap}
abbrev sNamed : Stmt := topS 39
abbrev nNamed : List Str := ["_law_house_here", "_law_pipe_here", "_law_at", "_law_one_here", "_law_other", "_law_length_here"]
theorem scNamed : FnScope nNamed ["_law_house_here", "_law_pipe_here", "_law_at"] (defScope sNamed) := ⟨rfl, rfl, rfl, by decide +kernel, rfl, by decide +kernel, by decide +kernel⟩
def spNamed : Sp := fun vs H Q _ => ∃ (h : V) (n i t : Int) (ps : List Pi) (av : List Addr), vs = [h, .int i, .int t] ∧ Dt av H h (houseD n (ps.map Pi.dat)) ∧ 0 ≤ i ∧ i < ps.length ∧ Tr av H ∧
  ∀ (H' : Hp) (a : Addr), Keep [] H H' → H a = none → Dt av H' (.ref a) (tupI (nm ps i t)) → Tr av H' → Q (.ref a) H'
theorem ok_named (h : Has K mg "_law_named" sNamed) (B : Blt mg) : Can P w K mg base "_law_named" ["_law_house_here", "_law_pipe_here", "_law_at"] 1 spNamed := by
  obtain ⟨f, fd, F, g⟩ := h
  refine ⟨f, fd, F.ok (k := 0) scNamed (fun vs H Q E h => ?_) (fun cdv A outer s H vs Q E hr h => ?_), g, F.kp, F.binds fun _ _ _ _ _ _ us hl => match us, hl with | [_, _, _], _ => rfl⟩
  · obtain ⟨h, n, i, t, ps, av, rfl, _⟩ := h
    rfl
  · obtain ⟨h, n, i, t, ps, av, rfl, dh, i0, i1, tr, q⟩ := h
    refine ⟨_, pss_cons (ps_asg (pe_slice sl_tup (pe_ix ix_tup (pe_ix ix_tup (pv 0) pe_int (fun _ _ => rfl)) (pv 1) (fun _ _ => rfl)) po_none (po_some pe_int)) (pg_tup (by rfl) (pgs_cons (pg_name (i := 3) scNamed.nd rfl (by first | exact Or.inl rfl | exact Or.inr rfl)) (pgs_cons (pg_name (i := 4) scNamed.nd rfl (by first | exact Or.inl rfl | exact Or.inr rfl)) (pgs_cons (pg_name (i := 5) scNamed.nd rfl (by first | exact Or.inl rfl | exact Or.inr rfl)) pgs_nil)))))
      (pss_cons (ps_if (pt_cmpR op_eq (pv 2) pe_int (nomark _)) (pss_one (ps_ret (pe_tup (pa_cons (pv 3) pa_nil)))) pss_nil)
      (pss_one (ps_ret (pe_ix ix_list (pe_lst (pa_cons (pe_tup (pa_cons (pv 1) (pa_cons (pv 2) pa_nil))) (pa_cons (pe_tup (pa_cons (pv 4) pa_nil)) pa_nil))) (pe_callTy call_int1 (by rfl) B.int_ boot_int (pa_cons (pe_cmpR op_eq (pv 2) (pv 5) (nomark _)) pa_nil)) (fun _ _ => rfl))))), ?_⟩
    obtain ⟨ah, ap, xp, rfl, nah, eah, nap, eap, dxp⟩ := house_parts dh
    obtain ⟨p', pa, T1, T2, mp, hp', epa, eP⟩ := pi_at dxp i0 i1
    have ep : p' = pr ps i := by
      have z := (pr_mem i0 i1).2
      rw [z] at hp'; exact (Option.some.inj hp').symm
    subst ep
    refine ⟨.ref ah, rfl, ah, _, 1, .ref ap, rfl, rfl, SqT.of eah, atI_nat (j := 1) rfl, .int i, rfl, ap, _, i, .ref pa, rfl, rfl, SqT.of eap, epa, 3, rfl, pa, _, rfl, SqT.of eP, (show ¬ (HT.sIx 5 0 none = 0 ∧ HT.sIx 5 5 (some 3) = 5) by decide), fun c nc => ?_⟩
    rw [show cutV [V.int (pr ps i).x, V.int (pr ps i).y, V.int (pr ps i).l, V.ref T1, V.ref T2] none (some 3) = [.int (pr ps i).x, .int (pr ps i).y, .int (pr ps i).l] from cut_to _ 3]
    refine ⟨c, [.int (pr ps i).x, .int (pr ps i).y, .int (pr ps i).l], rfl, SqT.of upd_same, rfl, _, _, rfl, _, _, rfl, _, [], rfl, rfl, ?_⟩
    have k1 : Keep [] H (upd H c (.tup [.int (pr ps i).x, .int (pr ps i).y, .int (pr ps i).l])) := Keep.new nc
    have tr1 : Tr av (upd H c (.tup [.int (pr ps i).x, .int (pr ps i).y, .int (pr ps i).l])) := tr.upd
    generalize upd H c (.tup [.int (pr ps i).x, .int (pr ps i).y, .int (pr ps i).l]) = H1 at k1 tr1
    refine ⟨.int t, rfl, rfl, _, rfl, ite2 (fun e => ?_) (fun e => ?_)⟩
    · have e0 : t = 0 := V.int.inj (of_decide_eq_true e)
      refine ⟨.int (pr ps i).x, rfl, show 1 ≤ sizeLine by decide, fun z nz => ?_⟩
      refine q _ z (k1.trans (Keep.new nz)) (k1.fr nz) ?_ tr1.upd
      rw [e0, nm_0]
      exact .tup (tr1.not nz) upd_same (.cons (.int _) .nil)
    · have e0 : t ≠ 0 := fun z => e (decide_eq_true (by rw [z]))
      refine ⟨.int i, rfl, .int t, rfl, show 2 ≤ sizeLine by decide, fun z nz => ⟨.int (pr ps i).y, rfl, show 1 ≤ sizeLine by decide, fun y ny => ?_⟩⟩
      have k2 : Keep [] H1 (upd H1 z (.tup [.int i, .int t])) := Keep.new nz
      have k3 : Keep [] H1 (upd (upd H1 z (.tup [.int i, .int t])) y (.tup [.int (pr ps i).y])) := k2.trans (Keep.new ny)
      have ez : (upd (upd H1 z (.tup [.int i, .int t])) y (.tup [.int (pr ps i).y])) z = some (.tup [.int i, .int t]) := by
        rw [upd_ne (ne_of_none (upd_same (H := H1) (a := z)) ny)]; exact upd_same
      have tr3 : Tr av (upd (upd H1 z (.tup [.int i, .int t])) y (.tup [.int (pr ps i).y])) := tr1.upd.upd
      have nzav : z ∉ av := tr1.not nz
      have nyav : y ∉ av := (tr1.upd (p := z) (o := .tup [.int i, .int t])).not ny
      refine ⟨show 2 ≤ sizeLine by decide, fun l nl => ?_⟩
      refine ⟨.int t, rfl, .int (pr ps i).l, rfl, rfl, .inr ⟨_, rfl, ?_⟩⟩
      have k4 := k3.trans (Keep.new (av := []) (o := .lst [.ref z, .ref y]) nl)
      by_cases hc : t = (pr ps i).l
      · rw [show decide (V.int t = V.int (pr ps i).l) = true from decide_eq_true (by rw [hc])]
        refine ⟨l, [.ref z, .ref y], 1, .ref y, rfl, rfl, SqL.of upd_same, atI_nat (j := 1) rfl, ?_⟩
        refine q _ y (k1.trans k4) ((k1.trans k2).fr ny) ?_ tr3.upd
        have en : nm ps i t = [(pr ps i).y] := by
          have l0 : (pr ps i).l ≠ 0 := by rw [← hc]; exact e0
          rw [hc, nm_l l0]
        rw [en]
        exact (Dt.tup nyav upd_same (.cons (.int _) .nil)).keep (Keep.new nl)
      · rw [show decide (V.int t = V.int (pr ps i).l) = false from decide_eq_false fun y => hc (V.int.inj y)]
        refine ⟨l, [.ref z, .ref y], 0, .ref z, rfl, rfl, SqL.of upd_same, atI_nat (j := 0) rfl, ?_⟩
        refine q _ z (k1.trans k4) (k1.fr nz) ?_ tr3.upd
        rw [nm_mid e0 hc]
        exact (Dt.tup nzav ez (.cons (.int _) (.cons (.int _) .nil))).keep (Keep.new nl)
end
end Rw

namespace Rw
open PySem PySem.Spec PyProof.Rows L2
theorem ok_nm' {n : Int} {ps : List Pi} (h : ∀ p ∈ ps, p.ok n) {i a : Int} (h0 : 0 ≤ i) (h1 : i < ps.length) (a0 : 0 ≤ a) (a1 : a ≤ (pr ps i).l) : okP n ps (nm ps i a) := by
  have z := h _ (pr_mem h0 h1).1
  have x0 := z.x0
  have x1 := z.x1
  have y0 := z.y0
  have y1 := z.y1
  unfold nm
  split
  · exact ⟨x0, by omega⟩
  · split
    · exact ⟨y0, by omega⟩
    · exact ⟨h0, h1, by omega, by omega⟩
theorem prs_depth : ∀ na : List (Int × Int), PyData.depthAll (na.map prD) ≤ 1
  | [] => by simp [PyData.depthAll]
  | p :: na => by
    have e : prD p = .tuple [.int p.1, .int p.2] := rfl
    have := prs_depth na
    rw [List.map_cons, e]
    simp only [PyData.depthAll, PyData.depth]
    omega
theorem pis_depth : ∀ ps : List Pi, PyData.depthAll (ps.map Pi.dat) ≤ 3
  | [] => by simp [PyData.depthAll]
  | p :: ps => by
    have e : p.dat = .tuple [.int p.x, .int p.y, .int p.l, .tuple (p.na.map prD), .tuple (p.fl.map prD)] := rfl
    have := pis_depth ps
    have := prs_depth p.na
    have := prs_depth p.fl
    rw [List.map_cons, e]
    simp only [PyData.depthAll, PyData.depth]
    omega
section
variable {P : Program} {w : World} {K : PySem.W.Frag} {mg : Str → Option Value} {base : Heap}
abbrev sPlaceL : Stmt := topS 40
theorem scPlaceL : FnScope ["_law_deck_here", "_law_house_here", "_law_pipe_here"] ["_law_deck_here", "_law_house_here"] (defScope sPlaceL) := ⟨rfl, rfl, rfl, by decide +kernel, rfl, by decide +kernel, by decide +kernel⟩
def spPlaceL : Sp := fun vs H Q _ => ∃ (h : V) (D C R : Addr) (n b : Int) (ps : List Pi) (av : List Addr), vs = [.ref D, h] ∧ Dt av H h (houseD n (ps.map Pi.dat)) ∧ 1 ≤ n ∧ n ≤ 16 ∧ (ps.length : Int) = n - 1 ∧ (∀ p ∈ ps, p.ok n) ∧ Deck H D C R b ∧ b ≤ 600000000 ∧ Tr av H ∧ D ∈ av ∧ R ∈ av ∧
  ∀ H' (a : Addr) (z : Pl), Keep [D, R] H H' → Deck H' D C R (b + 10) → H a = none → Dt av H' (.ref a) (tupI z) → okP n ps z → Tr av H' → Q (.ref a) H'
theorem ok_placeL (h : Has K mg "_law_place" sPlaceL) (B : Blt mg) (CN : Can P w K mg base "_law_next" ["_law_deck_here", "_law_many"] 1 spNext) (CE : Can P w K mg base "_law_edge" ["_law_deck_here", "_law_many"] 3 spEdge)
    (CM : Can P w K mg base "_law_named" ["_law_house_here", "_law_pipe_here", "_law_at"] 1 spNamed) : Can P w K mg base "_law_place" ["_law_deck_here", "_law_house_here"] 4 spPlaceL := by
  obtain ⟨f, fd, F, g⟩ := h
  refine ⟨f, fd, F.ok (k := 3) scPlaceL (fun vs H Q E h => ?_) (fun cdv A outer s H vs Q E hr h => ?_), g, F.kp, F.binds fun _ _ _ _ _ _ us hl => match us, hl with | [_, _], _ => rfl⟩
  · obtain ⟨h, D, C, R, n, b, ps, av, rfl, _⟩ := h
    rfl
  · obtain ⟨h, D, C, R, n, b, ps, av, rfl, dh, n0, hn, hl, okp, dk, hb, tr, mD, mR, q⟩ := h
    refine ⟨_, pss_cons (ps_if (PW.pt (pw_or (pt_cmpR (op_eqD hr.units) (pe_ix ix_tup (pv 1) pe_int (fun _ _ => rfl)) (pe_tup pa_nil) (nomark _)) (pw_or1 (pt_cmpR op_eq (pe_can CN (hr.mono (by decide)) (by rfl) (pa_cons (pv 0) (pa_cons pe_int pa_nil))) pe_int (nomark _)))))
        (pss_one (ps_ret (pe_tup (pa_cons (pe_can CN (hr.mono (by decide)) (by rfl) (pa_cons (pv 0) (pa_cons (pe_ix ix_tup (pv 1) pe_int (fun _ _ => rfl)) pa_nil))) pa_nil)))) pss_nil)
      (pss_cons (ps_set (i := 2) scPlaceL.nd rfl (.inl rfl) (pe_can CN (hr.mono (by decide)) (by rfl) (pa_cons (pv 0) (pa_cons (pe_callB call_len_seq (by rfl) B.len_ PySem.boot_len (pa_cons (pe_ix ix_tup (pv 1) pe_int (fun _ _ => rfl)) pa_nil)) pa_nil))))
      (pss_one (ps_ret (pe_can CM (hr.mono (by decide)) (by rfl) (pa_cons (pv 1) (pa_cons (pv 2) (pa_cons (pe_can CE hr (by rfl) (pa_cons (pv 0) (pa_cons (pe_op op_add (pe_ix ix_tup (pe_ix ix_tup (pe_ix ix_tup (pv 1) pe_int (fun _ _ => rfl)) (pv 2) (fun _ _ => rfl)) pe_int (fun _ _ => rfl)) pe_int) pa_nil))) pa_nil))))))), ?_⟩
    obtain ⟨ah, ap, xp, rfl, nah, eah, nap, eap, dxp⟩ := house_parts dh
    have subDR : ∀ z ∈ [D, R], z ∈ av := by
      intro z hz
      simp only [List.mem_cons, List.not_mem_nil, or_false] at hz
      rcases hz with hz | hz <;> (subst hz; assumption)
    refine ⟨.ref ah, rfl, ah, _, 1, .ref ap, rfl, rfl, SqT.of eah, atI_nat (j := 1) rfl, show 0 ≤ sizeLine by decide, fun c nc => ?_⟩
    have k1 : Keep [] H (upd H c (.tup [])) := Keep.new nc
    have d1 : Deck (upd H c (.tup [])) D C R b := dk.new nc
    have tr1 : Tr av (upd H c (.tup [])) := tr.upd
    have dh1 : Dt av (upd H c (.tup [])) (.ref ah) (houseD n (ps.map Pi.dat)) := dh.keep (Keep.of k1)
    have eah1 := k1.same ah _ eah
    have eap1 := k1.same ap _ eap
    have dxp1 : Dts av (upd H c (.tup [])) xp (ps.map Pi.dat) := dxp.keep (Keep.of k1)
    refine ⟨.tuple (ps.map Pi.dat), .tuple [], L2.Dp.tup (SqT.of eap1) (Dts.dp _ _ dxp1 (lay_pis ps)), .tup (SqT.of upd_same) .nil, shaped_of (by simp only [PyData.canLay0]; exact lay_pis ps) ?_, by decide, _, rfl, ?_⟩
    · have := pis_depth ps
      simp only [PyData.depth]; omega
    generalize hH1 : upd H c (.tup []) = H1 at *
    -- a room
    have room : ∀ (H2 : Hp) (b2 : Int), Keep [D, R] H H2 → Deck H2 D C R b2 → b2 ≤ b + 2 → ∀ H3 k, Keep [D, R] H2 H3 → Deck H3 D C R (b2 + 1) → 0 ≤ k → k < n → ∀ z, H3 z = none → Q (.ref z) (upd H3 z (.tup [.int k])) := fun H2 b2 k2 d2 hb2 H3 k k3 d3 a1 a2 z nz => by
      have kk := k2.trans k3
      exact q _ z [k] (kk.trans (Keep.new nz)) ((d3.new nz).mono (by omega)) (kk.free d3 nz) (.tup ((tr.keep kk d3).not nz) upd_same (.cons (.int k) .nil)) ⟨a1, a2⟩ (tr.keep kk d3).upd
    have k1' : Keep [D, R] H H1 := Keep.of k1
    rw [eqv_nil]
    refine ite2 (fun e => ?_) (fun e => ?_)
    · refine ⟨.ref D, rfl, .ref ah, rfl, ah, _, 0, .int n, rfl, rfl, SqT.of eah1, atI_nat (j := 0) rfl, D, C, R, b, n, rfl, n0, by omega, d1, by omega, fun H3 k k3 d3 a1 a2 => ?_⟩
      exact ⟨show 1 ≤ sizeLine by decide, room H1 b k1' d1 (by omega) H3 k k3 d3 a1 a2⟩
    · refine ⟨.ref D, rfl, D, C, R, b, 3, rfl, by decide, by decide, d1, by omega, fun H2 k2v k2 d2 _ _ => ⟨rfl, _, rfl, ite2 (fun e2 => ?_) (fun e2 => ?_)⟩⟩
      · have eah2 := k2 ah _ eah1 (fun m => nah (subDR _ m))
        refine ⟨.ref D, rfl, .ref ah, rfl, ah, _, 0, .int n, rfl, rfl, SqT.of eah2, atI_nat (j := 0) rfl, D, C, R, b + 1, n, rfl, n0, by omega, d2, by omega, fun H3 k k3 d3 a1 a2 => ?_⟩
        exact ⟨show 1 ≤ sizeLine by decide, room H2 (b + 1) (k1'.trans k2) d2 (by omega) H3 k k3 d3 a1 a2⟩
      · have pos : 0 < ps.length := by
          cases ps with
          | nil => exact absurd rfl e
          | cons _ _ => exact Nat.succ_pos _
        have eah2 := k2 ah _ eah1 (fun m => nah (subDR _ m))
        have eap2 := k2 ap _ eap1 (fun m => nap (subDR _ m))
        have lx : xp.length = ps.length := by rw [dxp.len, List.length_map]
        refine ⟨.ref D, rfl, .ref ah, rfl, ah, _, 1, .ref ap, rfl, rfl, SqT.of eah2, atI_nat (j := 1) rfl, ap, _, rfl, .inr (SqT.of eap2), D, C, R, b + 1, _, rfl, by omega, by omega, d2, by omega, fun H3 k k3 d3 a1 a2 => ?_⟩
        have dh3 := (dh1.keep (k2.mono subDR)).keep (k3.mono subDR)
        have eah3 := k3 ah _ eah2 (fun m => nah (subDR _ m))
        have eap3 := k3 ap _ eap2 (fun m => nap (subDR _ m))
        have dxp3 := (dxp1.keep (k2.mono subDR)).keep (k3.mono subDR)
        obtain ⟨p, pa, T1, T2, mp, hp, epa, eP⟩ := pi_at dxp3 a1 (by omega : k < ps.length)
        have okq := okp p mp
        have l1 := okq.fit.l1
        have l2 := okq.fit.l2
        refine ⟨.ref ah, rfl, .int k, rfl, .ref D, rfl, .ref ah, rfl, ah, _, 1, .ref ap, rfl, rfl, SqT.of eah3, atI_nat (j := 1) rfl, .int k, rfl, ap, _, k, .ref pa, rfl, rfl, SqT.of eap3, epa, pa, _, 2, .int p.l, rfl, rfl, SqT.of eP, atI_nat (j := 2) rfl, p.l, 1, rfl, rfl,
          D, C, R, b + 1 + 1, p.l + 1, rfl, by omega, by omega, d3, by omega, fun H4 t k4 d4 a3 a4 => ?_⟩
        have kk : Keep [D, R] H H4 := k1'.trans (k2.trans (k3.trans k4))
        have ep : p = pr ps k := by
          have z := (pr_mem a1 (by omega : k < ps.length)).2
          rw [z] at hp; exact (Option.some.inj hp).symm
        subst ep
        refine ⟨.ref ah, n, k, t, ps, av, rfl, dh3.keep (k4.mono subDR), a1, by omega, tr.keep kk d4, fun H5 a k5 na' da tr5 => ?_⟩
        exact q H5 a (nm ps k t) (kk.trans (Keep.of k5)) ((d4.keep k5).mono (by omega)) (kk.free d4 na') da (ok_nm' okp a1 (by omega) a3 (by omega)) tr5
end
end Rw

namespace Rw
/-! ### which places are next to one: two lists, one arrangement -/
section
variable {n : Int} {ps : List Pi} {d : Int → Int → Int} (T : Tm n ps d)
include T
/-! besideL -/
theorem mem_beside {p q : Pl} (ok : okP n ps p) : q ∈ besideL ps p ↔ Adj ps p q := by
  rcases ok_cases ok with ⟨r, rfl, r0, r1⟩ | ⟨i, b, rfl, h0, h1, b0, b1⟩
  · show q ∈ (doorsTo ps r ps.length).map (doorNext ps) ↔ _
    constructor
    · intro m
      obtain ⟨row, mr, rfl⟩ := List.mem_map.mp m
      obtain ⟨j, jl, h⟩ := mem_doors.mp mr
      have l1 := (T.at (i := (j : Int)) (by omega) (by omega)).2.2.2.2
      rcases h with ⟨e, rfl⟩ | ⟨e, rfl⟩
      · exact ⟨(j : Int), 0, by omega, by omega, by omega, by omega, .inl ⟨by rw [nm_0, e], rfl⟩⟩
      · refine ⟨(j : Int), (pr ps (j : Int)).l - 1, by omega, by omega, by omega, by omega, .inr ⟨?_, by rw [show (pr ps (j : Int)).l - 1 + 1 = (pr ps (j : Int)).l by omega, nm_l (by omega), e]⟩⟩
        show nm ps (j : Int) (if (pr ps (j : Int)).l = 0 then 1 else (pr ps (j : Int)).l - 1) = _
        rw [if_neg (by omega)]
    · rintro ⟨j, a, j0, j1, a0, a1, h⟩
      have ej : ((j.toNat : Nat) : Int) = j := by omega
      rcases h with ⟨e1, rfl⟩ | ⟨rfl, e1⟩
      · rcases nm_one e1.symm with ⟨z, ex⟩ | ⟨z, _⟩
        · subst z
          exact List.mem_map.mpr ⟨[j, 0, (pr ps j).y, (pr ps j).l], mem_doors.mpr ⟨j.toNat, by omega, .inl (by rw [ej]; exact ⟨ex, rfl⟩)⟩, rfl⟩
        · omega
      · rcases nm_one e1.symm with ⟨z, _⟩ | ⟨z, ey⟩
        · omega
        · refine List.mem_map.mpr ⟨[j, (pr ps j).l, (pr ps j).x, 0], mem_doors.mpr ⟨j.toNat, by omega, .inr (by rw [ej]; exact ⟨ey, rfl⟩)⟩, ?_⟩
          show nm ps j (if (pr ps j).l = 0 then 1 else (pr ps j).l - 1) = nm ps j a
          rw [if_neg (by omega), show (pr ps j).l - 1 = a by omega]
  · show q ∈ [nm ps i (b - 1), nm ps i (b + 1)] ↔ _
    have pe : nm ps i b = [i, b] := nm_mid (by omega) (by omega)
    constructor
    · intro m
      rcases List.mem_cons.mp m with rfl | m
      · exact ⟨i, b - 1, h0, h1, by omega, by omega, .inr ⟨rfl, by rw [show b - 1 + 1 = b by omega, pe]⟩⟩
      · rw [List.mem_singleton.mp m]
        exact ⟨i, b, h0, h1, by omega, by omega, .inl ⟨pe.symm, rfl⟩⟩
    · intro h
      rcases near_mid T b0 b1 h with rfl | rfl
      · exact List.mem_cons_self
      · exact List.mem_cons_of_mem _ List.mem_cons_self
theorem doors_nodup (r : Int) (r0 : 0 ≤ r) (r1 : r < n) : ∀ m : Nat, m ≤ ps.length → ((doorsTo ps r m).map (doorNext ps)).Nodup
  | 0, _ => by unfold doorsTo; simp
  | m + 1, hm => by
    have ih := doors_nodup r r0 r1 m (by omega)
    obtain ⟨x0, x1, y0, y1, l1⟩ := T.at (i := (m : Int)) (by omega) (by omega)
    have o := (T.own (i := (m : Int)) (by omega) (by omega)).2.2
    rw [doorsTo_succ, List.map_append]
    have old : ∀ q ∈ (doorsTo ps r m).map (doorNext ps), AdjTo ps (m : Int) 0 [r] q := fun q hq => by
      obtain ⟨row, mr, rfl⟩ := List.mem_map.mp hq
      obtain ⟨j, jl, h⟩ := mem_doors.mp mr
      have l2 := (T.at (i := (j : Int)) (by omega) (by omega)).2.2.2.2
      rcases h with ⟨e, rfl⟩ | ⟨e, rfl⟩
      · exact ⟨(j : Int), 0, by omega, .inl ⟨by omega, by omega, by omega⟩, .inl ⟨by rw [nm_0, e], rfl⟩⟩
      · refine ⟨(j : Int), (pr ps (j : Int)).l - 1, by omega, .inl ⟨by omega, by omega, by omega⟩, .inr ⟨?_, by rw [show (pr ps (j : Int)).l - 1 + 1 = (pr ps (j : Int)).l by omega, nm_l (by omega), e]⟩⟩
        show nm ps (j : Int) (if (pr ps (j : Int)).l = 0 then 1 else (pr ps (j : Int)).l - 1) = _
        rw [if_neg (by omega)]
    have far : ∀ (a : Int) (q : Pl), 0 ≤ a → a < (pr ps (m : Int)).l → (([r] = nm ps (m : Int) a ∧ q = nm ps (m : Int) (a + 1)) ∨ (q = nm ps (m : Int) a ∧ [r] = nm ps (m : Int) (a + 1))) → q ∉ (doorsTo ps r m).map (doorNext ps) := fun a q a0 a1 hq mem => by
      obtain ⟨j, b, j0, h | h, rr⟩ := old q mem
      · have z := step_one T (i := (m : Int)) (a := a) (j := j) (b := b) (by omega) (by omega) a0 a1 j0 (by omega) h.2.1 h.2.2 (by
          rcases hq with ⟨u1, u2⟩ | ⟨u1, u2⟩ <;> rcases rr with ⟨v1, v2⟩ | ⟨v1, v2⟩
          · exact .inl ⟨u1.symm.trans v1, u2.symm.trans v2⟩
          · exact .inr ⟨u1.symm.trans v2, u2.symm.trans v1⟩
          · exact .inr ⟨u1.symm.trans v2, u2.symm.trans v1⟩
          · exact .inl ⟨u1.symm.trans v1, u2.symm.trans v2⟩)
        omega
      · omega
    unfold doorRow
    by_cases ex : (pr ps (m : Int)).x = r
    · have ey : ¬ (pr ps (m : Int)).y = r := fun z => o (by rw [ex, z])
      rw [if_pos ex, if_neg ey, List.append_nil]
      refine List.nodup_append.mpr ⟨ih, by simp, fun a ha b hb z => ?_⟩
      rw [List.mem_singleton.mp hb] at z
      exact far 0 (doorNext ps [(m : Int), 0, (pr ps (m : Int)).y, (pr ps (m : Int)).l]) (by omega) (by omega) (.inl ⟨by rw [nm_0, ex], rfl⟩) (z ▸ ha)
    · by_cases ey : (pr ps (m : Int)).y = r
      · rw [if_neg ex, if_pos ey, List.nil_append]
        refine List.nodup_append.mpr ⟨ih, by simp, fun a ha b hb z => ?_⟩
        rw [List.mem_singleton.mp hb] at z
        have en : doorNext ps [(m : Int), (pr ps (m : Int)).l, (pr ps (m : Int)).x, 0] = nm ps (m : Int) ((pr ps (m : Int)).l - 1) := by
          show nm ps (m : Int) (if (pr ps (m : Int)).l = 0 then 1 else (pr ps (m : Int)).l - 1) = _
          rw [if_neg (by omega)]
        exact far ((pr ps (m : Int)).l - 1) _ (by omega) (by omega) (.inr ⟨en, by rw [show (pr ps (m : Int)).l - 1 + 1 = (pr ps (m : Int)).l by omega, nm_l (by omega), ey]⟩) (z ▸ ha)
      · rw [if_neg ex, if_neg ey]
        simp only [List.append_nil, List.map_nil]
        exact ih
theorem beside_nodup {p : Pl} (ok : okP n ps p) : (besideL ps p).Nodup := by
  rcases ok_cases ok with ⟨r, rfl, r0, r1⟩ | ⟨i, b, rfl, h0, h1, b0, b1⟩
  · exact doors_nodup T r r0 r1 ps.length (Nat.le_refl _)
  · show [nm ps i (b - 1), nm ps i (b + 1)].Nodup
    refine List.nodup_cons.mpr ⟨fun m => ?_, by simp⟩
    have := nm_inj T h0 h1 (by omega) (by omega) (by omega) (by omega) (List.mem_singleton.mp m)
    omega
end
theorem perm_of {α : Type} [DecidableEq α] {l m : List α} (hl : l.Nodup) (hm : m.Nodup) (h : ∀ x, x ∈ l ↔ x ∈ m) : l.Perm m := by
  rw [List.perm_iff_count]
  intro a
  rw [hl.count, hm.count]
  by_cases e : a ∈ l
  · rw [if_pos e, if_pos ((h a).mp e)]
  · rw [if_neg e, if_neg (fun z => e ((h a).mpr z))]
theorem leI_trans (a b c : List Int) (h1 : leI a b = true) (h2 : leI b c = true) : leI a c = true := by
  unfold leI at *
  simp only [Bool.not_eq_true', decide_eq_false_iff_not] at *
  exact List.le_trans (l₁ := a) (l₂ := b) (l₃ := c) h1 h2
theorem leI_total (a b : List Int) : (leI a b || leI b a) = true := by
  unfold leI
  by_cases h : b < a
  · have : ¬ a < b := List.lt_asymm h
    simp [h, this]
  · simp [h]
theorem leI_anti (a b : List Int) (h1 : leI a b = true) (h2 : leI b a = true) : a = b := by
  unfold leI at *
  simp only [Bool.not_eq_true', decide_eq_false_iff_not] at *
  exact List.le_antisymm h1 h2
theorem sortL_perm {l m : List (List Int)} (h : l.Perm m) : sortL l = sortL m := by
  have p : (sortL l).Perm (sortL m) := (List.mergeSort_perm l leI).trans (h.trans (List.mergeSort_perm m leI).symm)
  exact List.Perm.eq_of_pairwise (fun a b _ _ h1 h2 => leI_anti a b h1 h2) (List.pairwise_mergeSort leI_trans leI_total l) (List.pairwise_mergeSort leI_trans leI_total m) p
end Rw

namespace Rw
open PySem PySem.Spec PyProof.Rows L2
section
variable {P : Program} {w : World} {K : PySem.W.Frag} {mg : Str → Option Value} {base : Heap}
abbrev sBey : Stmt := topS 42
abbrev nBey : List Str := ["_law_house_here", "_law_one_here", "_law_other", "_law_place_here", "_law_whole"]
theorem scBey : FnScope nBey ["_law_house_here", "_law_one_here", "_law_other"] (defScope sBey) := ⟨rfl, rfl, rfl, by decide +kernel, rfl, by decide +kernel, by decide +kernel⟩
def spBey : Sp := fun vs H Q _ => ∃ (h o1 o2 : V) (n : Int) (ps : List Pi) (d : Int → Int → Int) (p q : Pl), vs = [h, o1, o2] ∧ Dt [] H h (houseD n (ps.map Pi.dat)) ∧ HouseOk n ps ∧ Tm n ps d ∧ Dt [] H o1 (tupI p) ∧ Dt [] H o2 (tupI q) ∧ okP n ps p ∧ okP n ps q ∧ ∀ H', Keep [] H H' → Q (.bl true) H'
theorem ok_bey (h : Has K mg "_law_beyond_right" sBey) (CX : Can P w K mg base "next_to" ["house", "place"] 4 spNxt) (CQ : Can P w K mg base "distance_of" ["house", "one", "other"] 4 spDist) (CI : Can P w K mg base "is_between" ["house", "one", "other", "place"] 5 spBtw) (CS : Can P w K mg base "_law_same" ["_law_found", "_law_due"] 3 (spSameD 2)) : Can P w K mg base "_law_beyond_right" ["_law_house_here", "_law_one_here", "_law_other"] 6 spBey := by
  obtain ⟨f, fd, F, g⟩ := h
  refine ⟨f, fd, F.ok (k := 5) scBey (fun vs H Q E h => ?_) (fun cdv A outer s H vs Q E hr h => ?_), g, F.kp, F.binds fun _ _ _ _ _ _ us hl => match us, hl with | [_, _, _], _ => rfl⟩
  · obtain ⟨h, o1, o2, n, ps, d, p, q, rfl, _⟩ := h
    rfl
  · obtain ⟨h, o1, o2, n, ps, d, p, q, rfl, hh, hk, T, h1, h2, okp, okq, kk⟩ := h
    refine ⟨_, pss_cons (ps_for PassesOwn.never rfl (pi_tup (pe_can CX (hr.mono (by decide)) (by rfl) (pa_cons (pv 0) (pa_cons (pv 2) pa_nil)))) (pg_name (i := 3) scBey.nd rfl (by first | exact Or.inl rfl | exact Or.inr rfl))
      (pss_cons (ps_set (i := 4) scBey.nd rfl (by first | exact Or.inl rfl | exact Or.inr rfl) (pe_cmpR op_lt (pe_can CQ (hr.mono (by decide)) (by rfl) (pa_cons (pv 0) (pa_cons (pv 1) (pa_cons (pv 3) pa_nil)))) (pe_can CQ (hr.mono (by decide)) (by rfl) (pa_cons (pv 0) (pa_cons (pv 1) (pa_cons (pv 2) pa_nil)))) (nomark _)))
      (pss_one (ps_if (pt_not (pt_val (pe_can CS (hr.mono (by decide)) (by rfl) (pa_cons (pe_can CI (hr.mono (by decide)) (by rfl) (pa_cons (pv 0) (pa_cons (pv 1) (pa_cons (pv 2) (pa_cons (pv 3) pa_nil))))) (pa_cons (pv 4) pa_nil))))) (pss_one (ps_ret pe_bl)) pss_nil))))
      (pss_one (ps_ret pe_bl)), ?_⟩
    refine ⟨h, rfl, o2, rfl, h, o2, n, ps, d, q, [], rfl, hh, hk, T, h2, okq, (show Tr [] H from fun _ m => absurd m List.not_mem_nil), fun H1 Tt us k1 _ _ eT du => ?_⟩
    refine ⟨Tt, rfl, ⟨_, SqT.of eT⟩, for_tup (K := K) (a := Tt) (xs := us) (fun j σ J => ∃ s3 s4, σ = [some h, some o1, some o2, s3, s4] ∧ Keep [] H1 J) ⟨_, _, rfl, Keep.refl _ _⟩ (fun j σ J _ p => ?_) (fun j x σ J hx p => ?_) (fun σ J p => ?_)⟩
    · obtain ⟨_, _, _, kJ⟩ := p
      exact SqT.of (kJ Tt _ eT List.not_mem_nil)
    · obtain ⟨s3, s4, rfl, kJ⟩ := p
      obtain ⟨dd, gd, dx⟩ := (du.keep kJ).getv j hx
      rw [List.getElem?_map] at gd
      obtain ⟨z, gz, rfl⟩ := Option.map_eq_some_iff.mp gd
      have az : Adj ps q z := (mem_beside T okq).mp ((List.mem_mergeSort (le := leI)).mp (List.mem_of_getElem? gz))
      have okz := ok_adj T az
      have kHJ := k1.trans kJ
      refine ⟨h, rfl, o1, rfl, x, rfl, h, o1, x, n, ps, d, p, z, rfl, hh.keep kHJ, hk, T, h1.keep kHJ, dx, okp, okz, fun H3 k3 => ?_⟩
      have kH3 := kHJ.trans k3
      refine ⟨h, rfl, o1, rfl, o2, rfl, h, o1, o2, n, ps, d, p, q, rfl, hh.keep kH3, hk, T, h1.keep kH3, h2.keep kH3, okp, okq, fun H4 k4 => ⟨_, _, rfl, rfl, ?_⟩⟩
      have kH4 := kH3.trans k4
      refine ⟨h, rfl, o1, rfl, o2, rfl, x, rfl, h, o1, o2, x, n, ps, d, p, q, z, rfl, hh.keep kH4, hk, T, h1.keep kH4, h2.keep kH4, dx.keep (k3.trans k4), okp, okq, okz, fun H5 k5 => ?_⟩
      have eb : decide (Dp ps d p z < Dp ps d p q) = btwB ps d p q z := by
        have o1' := adj_one T okz az.symm
        have st := Dp_step T okp az
        refine decide_eq_decide.mpr ⟨fun w => ?_, fun w => ?_⟩
        · rcases st with e | e <;> omega
        · rcases st with e | e <;> omega
      refine ⟨.bl (decide (Dp ps d p z < Dp ps d p q)), rfl, .bl (btwB ps d p q z), .bl (decide (Dp ps d p z < Dp ps d p q)), .bool (btwB ps d p q z), rfl, .bl _, by rw [eb]; exact .bl _, .bool 2 _, fun H6 k6 => ⟨_, rfl, iteF ?_⟩⟩
      exact ⟨_, _, rfl, kJ.trans (k3.trans (k4.trans (k5.trans k6)))⟩
    · obtain ⟨s3, s4, rfl, kJ⟩ := p
      exact kk J (k1.trans kJ)
end
end Rw

namespace Rw
open PySem PySem.Spec PyProof.Rows L2
section
variable {P : Program} {w : World} {K : PySem.W.Frag} {mg : Str → Option Value} {base : Heap}
abbrev sThr : Stmt := topS 43
abbrev nThr : List Str := ["_law_house_here", "_law_one_here", "_law_other", "_law_third", "_law_first", "_law_second", "_law_last", "_law_many", "_law_amid", "_law_place_here", "_law_told"]
theorem scThr : FnScope nThr ["_law_house_here", "_law_one_here", "_law_other", "_law_third"] (defScope sThr) := ⟨rfl, rfl, rfl, by decide +kernel, rfl, by decide +kernel, by decide +kernel⟩
def spThr : Sp := fun vs H Q _ => ∃ (h o1 o2 o3 : V) (n : Int) (ps : List Pi) (d : Int → Int → Int) (p q r : Pl), vs = [h, o1, o2, o3] ∧ Dt [] H h (houseD n (ps.map Pi.dat)) ∧ HouseOk n ps ∧ Tm n ps d ∧ Dt [] H o1 (tupI p) ∧ Dt [] H o2 (tupI q) ∧ Dt [] H o3 (tupI r) ∧ okP n ps p ∧ okP n ps q ∧ okP n ps r ∧ ∀ H', Keep [] H H' → Q (.bl true) H'
theorem ok_thr (h : Has K mg "_law_three_right" sThr) (B : Blt mg) (CQ : Can P w K mg base "distance_of" ["house", "one", "other"] 4 spDist) (CT : Can P w K mg base "place_on" ["house", "one", "other", "steps"] 5 spOn) (CI : Can P w K mg base "is_between" ["house", "one", "other", "place"] 5 spBtw) (CS : Can P w K mg base "_law_same" ["_law_found", "_law_due"] 3 (spSameD 2)) : Can P w K mg base "_law_three_right" ["_law_house_here", "_law_one_here", "_law_other", "_law_third"] 6 spThr := by
  obtain ⟨f, fd, F, g⟩ := h
  refine ⟨f, fd, F.ok (k := 5) scThr (fun vs H Q E h => ?_) (fun cdv A outer s H vs Q E hr h => ?_), g, F.kp, F.binds fun _ _ _ _ _ _ us hl => match us, hl with | [_, _, _, _], _ => rfl⟩
  · obtain ⟨h, o1, o2, o3, n, ps, d, p, q, r, rfl, _⟩ := h
    rfl
  · obtain ⟨h, o1, o2, o3, n, ps, d, p, q, r, rfl, hh, hk, T, h1, h2, h3, okp, okq, okr, kk⟩ := h
    refine ⟨_, pss_cons (ps_par (i := 4) (j := 5) (by rfl) scThr.nd rfl rfl (by decide) rfl rfl (pa_cons (pe_can CQ (hr.mono (by decide)) (by rfl) (pa_cons (pv 0) (pa_cons (pv 1) (pa_cons (pv 2) pa_nil)))) (pa_cons (pe_can CQ (hr.mono (by decide)) (by rfl) (pa_cons (pv 0) (pa_cons (pv 1) (pa_cons (pv 3) pa_nil)))) pa_nil)) (by rfl))
      (pss_cons (ps_set (i := 6) scThr.nd rfl (by first | exact Or.inl rfl | exact Or.inr rfl) (pe_can CQ (hr.mono (by decide)) (by rfl) (pa_cons (pv 0) (pa_cons (pv 2) (pa_cons (pv 3) pa_nil)))))
      (pss_cons (ps_if (pt_cmpR op_ne (pe_op op_mod (pe_op op_add (pe_op op_add (pv 4) (pv 5)) (pv 6)) pe_int) pe_int (nomark _)) (pss_one (ps_ret pe_bl)) pss_nil)
      (pss_cons (ps_set (i := 7) scThr.nd rfl (by first | exact Or.inl rfl | exact Or.inr rfl) (pe_op op_fdiv (pe_op op_sub (pe_op op_add (pv 4) (pv 5)) (pv 6)) pe_int))
      (pss_cons (ps_if (pt_not (pt_chain op_le op_le pe_int (pv 7) (pe_callB (call_min2 rfl) (by rfl) B.min_ boot_min (pa_cons (pv 4) (pa_cons (pv 5) pa_nil))))) (pss_one (ps_ret pe_bl)) pss_nil)
      (pss_cons (ps_set (i := 8) scThr.nd rfl (by first | exact Or.inl rfl | exact Or.inr rfl) (pe_can CT (hr.mono (by decide)) (by rfl) (pa_cons (pv 0) (pa_cons (pv 1) (pa_cons (pv 2) (pa_cons (pv 7) pa_nil))))))
      (pss_cons (ps_setLc (i := 10) (own := [("_law_place_here", 9)]) (g := gName 9) (tt := tYes) rfl scThr.nd rfl rfl (sw_true rfl rfl rfl (by decide +kernel)) (pi_list (pe_lst (pa_cons (pv 1) (pa_cons (pv 2) (pa_cons (pv 3) pa_nil))))) (blkOk_by (N := nThr) (sc := defScope sThr) (by decide +kernel)) (fun _ _ _ _ _ => (pg_name (i := 9) scThr.nd rfl (by first | exact Or.inl rfl | exact Or.inr rfl))) (fun _ _ _ _ _ => pts_nil) (fun _ _ _ _ _ => (pe_can CQ (hr.mono (by decide)) (by rfl) (pa_cons (pv 0) (pa_cons (pv 8) (pa_cons (pv 9) pa_nil))))))
      (pss_cons (ps_if (pt_not (pt_val (pe_can CS (hr.mono (by decide)) (by rfl) (pa_cons (pv 10) (pa_cons (pe_lst (pa_cons (pv 7) (pa_cons (pe_op op_sub (pv 4) (pv 7)) (pa_cons (pe_op op_sub (pv 5) (pv 7)) pa_nil)))) pa_nil))))) (pss_one (ps_ret pe_bl)) pss_nil)
      (pss_one (ps_ret (pe_and (pe_can CI (hr.mono (by decide)) (by rfl) (pa_cons (pv 0) (pa_cons (pv 1) (pa_cons (pv 3) (pa_cons (pv 8) pa_nil))))) (pe_one (pe_can CI (hr.mono (by decide)) (by rfl) (pa_cons (pv 0) (pa_cons (pv 2) (pa_cons (pv 3) (pa_cons (pv 8) pa_nil)))))))))))))))), ?_⟩
    refine ⟨h, rfl, o1, rfl, o2, rfl, h, o1, o2, n, ps, d, p, q, rfl, hh, hk, T, h1, h2, okp, okq, fun H1 k1 => ?_⟩
    refine ⟨h, rfl, o1, rfl, o3, rfl, h, o1, o3, n, ps, d, p, r, rfl, hh.keep k1, hk, T, h1.keep k1, h3.keep k1, okp, okr, fun H2 k2 => ⟨_, _, rfl, ?_⟩⟩
    have kH2 := k1.trans k2
    refine ⟨h, rfl, o2, rfl, o3, rfl, h, o2, o3, n, ps, d, q, r, rfl, hh.keep kH2, hk, T, h2.keep kH2, h3.keep kH2, okq, okr, fun H3 k3 => ?_⟩
    have kH3 := kH2.trans k3
    obtain ⟨m, em, m0, m1, m2, hm⟩ := mid_of T okp okq okr
    refine ⟨_, rfl, _, rfl, _, _, rfl, rfl, _, rfl, _, _, rfl, rfl, _, 2, rfl, rfl, (by decide : (0 : Int) < 2), rfl, _, rfl, ?_⟩
    rw [show (!decide (V.int ((Dp ps d p q + Dp ps d p r + Dp ps d q r) % 2) = V.int 0)) = false from by rw [decide_eq_true (congrArg V.int (show (Dp ps d p q + Dp ps d p r + Dp ps d q r) % 2 = 0 by omega))]; rfl]
    refine iteF ?_
    refine ⟨_, rfl, _, rfl, _, _, rfl, rfl, _, rfl, _, _, rfl, rfl, _, 2, rfl, rfl, ⟨by decide, by decide⟩, ?_⟩
    have em2 : m = (Dp ps d p q + Dp ps d p r - Dp ps d q r) / 2 := by omega
    subst em2
    refine ⟨.int ((Dp ps d p q + Dp ps d p r - Dp ps d q r) / 2), rfl, 0, ((Dp ps d p q + Dp ps d p r - Dp ps d q r) / 2), rfl, rfl, _, rfl, ?_⟩
    rw [decide_eq_true m0]
    refine iteT ⟨_, rfl, _, rfl, _, _, rfl, ((Dp ps d p q + Dp ps d p r - Dp ps d q r) / 2), _, rfl, rfl, _, rfl, ?_⟩
    rw [decide_eq_true (show ((Dp ps d p q + Dp ps d p r - Dp ps d q r) / 2) ≤ (if Dp ps d p r < Dp ps d p q then Dp ps d p r else Dp ps d p q) by split <;> omega)]
    refine iteF ?_
    refine ⟨h, rfl, o1, rfl, o2, rfl, .int ((Dp ps d p q + Dp ps d p r - Dp ps d q r) / 2), rfl, h, o1, o2, n, ((Dp ps d p q + Dp ps d p r - Dp ps d q r) / 2), ps, d, p, q, rfl, hh.keep kH3, hk, T, h1.keep kH3, h2.keep kH3, okp, okq, m0, m1, fun H4 v z k4 dz okz z1 z2 => ?_⟩
    have kH4 := kH3.trans k4
    obtain ⟨z3, b1, b2⟩ := hm z okz z1 z2
    have szp := Dp_sym T okz okp
    refine ⟨o1, rfl, o2, rfl, o3, rfl, show 3 ≤ sizeLine by decide, fun L nL => ?_⟩
    have kL : Keep [] H4 (upd H4 L (.lst [o1, o2, o3])) := Keep.new nL
    have eL : (upd H4 L (.lst [o1, o2, o3])) L = some (.lst [o1, o2, o3]) := upd_same
    generalize upd H4 L (.lst [o1, o2, o3]) = H5 at kL eL ⊢
    refine ⟨L, rfl, ⟨_, SqL.of eL⟩, fun W nW => ?_⟩
    have kH5 := kH4.trans kL
    refine lc_list (K := K) (a := L) (xs := [o1, o2, o3]) (fun t G => Keep [] H5 G ∧ G W = some (.lst (([((Dp ps d p q + Dp ps d p r - Dp ps d q r) / 2), Dp ps d p q - ((Dp ps d p q + Dp ps d p r - Dp ps d q r) / 2), Dp ps d p r - ((Dp ps d p q + Dp ps d p r - Dp ps d q r) / 2)].take t).map V.int))) ⟨Keep.new nW, upd_same⟩ (fun t G _ pp => SqL.of (pp.1 L _ eL List.not_mem_nil)) (fun t x G hx pp => ?_) (fun G pp => ?_)
    · obtain ⟨kG, eW⟩ := pp
      have kHG := kH5.trans kG
      have one : ∀ (x : V) (px : Pl) (c : Int), Dt [] H x (tupI px) → okP n ps px → Dp ps d z px = c → ([((Dp ps d p q + Dp ps d p r - Dp ps d q r) / 2), Dp ps d p q - ((Dp ps d p q + Dp ps d p r - Dp ps d q r) / 2), Dp ps d p r - ((Dp ps d p q + Dp ps d p r - Dp ps d q r) / 2)].take (t + 1)) = ([((Dp ps d p q + Dp ps d p r - Dp ps d q r) / 2), Dp ps d p q - ((Dp ps d p q + Dp ps d p r - Dp ps d q r) / 2), Dp ps d p r - ((Dp ps d p q + Dp ps d p r - Dp ps d q r) / 2)].take t) ++ [c] → True := fun _ _ _ _ _ _ _ => trivial
      obtain ⟨px, c, dpx, okx, ec, etk⟩ : ∃ (px : Pl) (c : Int), Dt [] H x (tupI px) ∧ okP n ps px ∧ Dp ps d z px = c ∧ ([((Dp ps d p q + Dp ps d p r - Dp ps d q r) / 2), Dp ps d p q - ((Dp ps d p q + Dp ps d p r - Dp ps d q r) / 2), Dp ps d p r - ((Dp ps d p q + Dp ps d p r - Dp ps d q r) / 2)].take (t + 1)) = ([((Dp ps d p q + Dp ps d p r - Dp ps d q r) / 2), Dp ps d p q - ((Dp ps d p q + Dp ps d p r - Dp ps d q r) / 2), Dp ps d p r - ((Dp ps d p q + Dp ps d p r - Dp ps d q r) / 2)].take t) ++ [c] := by
        match t, hx with
        | 0, hx => obtain rfl := Option.some.inj hx; exact ⟨p, ((Dp ps d p q + Dp ps d p r - Dp ps d q r) / 2), h1, okp, by omega, rfl⟩
        | 1, hx => obtain rfl := Option.some.inj hx; exact ⟨q, Dp ps d p q - ((Dp ps d p q + Dp ps d p r - Dp ps d q r) / 2), h2, okq, by omega, rfl⟩
        | 2, hx => obtain rfl := Option.some.inj hx; exact ⟨r, Dp ps d p r - ((Dp ps d p q + Dp ps d p r - Dp ps d q r) / 2), h3, okr, by omega, rfl⟩
        | t + 3, hx => simp at hx
      refine ⟨rfl, h, rfl, v, rfl, x, rfl, h, v, x, n, ps, d, z, px, rfl, hh.keep kHG, hk, T, dz.keep (kL.trans kG), dpx.keep kHG, okz, okx, fun G2 k2' => ?_⟩
      have eW2 := k2' W _ eW List.not_mem_nil
      refine ⟨_, eW2, by rw [List.length_map, List.length_take]; exact Nat.lt_of_lt_of_le (show _ < 1000 by simp; omega) (small1000 (by omega)), (kG.trans k2').upd nW, ?_⟩
      rw [upd_same, etk, ec, List.map_append]; rfl
    · obtain ⟨kG, eW⟩ := pp
      have kHG := kH5.trans kG
      have eW' : G W = some (.lst [.int ((Dp ps d p q + Dp ps d p r - Dp ps d q r) / 2), .int (Dp ps d p q - ((Dp ps d p q + Dp ps d p r - Dp ps d q r) / 2)), .int (Dp ps d p r - ((Dp ps d p q + Dp ps d p r - Dp ps d q r) / 2))]) := eW
      refine ⟨.ref W, rfl, .int ((Dp ps d p q + Dp ps d p r - Dp ps d q r) / 2), rfl, _, rfl, .int ((Dp ps d p q + Dp ps d p r - Dp ps d q r) / 2), rfl, _, _, rfl, rfl, _, rfl, .int ((Dp ps d p q + Dp ps d p r - Dp ps d q r) / 2), rfl, _, _, rfl, rfl, show 3 ≤ sizeLine by decide, fun L2' nL2 => ?_⟩
      have k6 := Keep.new (av := []) (o := .lst [.int ((Dp ps d p q + Dp ps d p r - Dp ps d q r) / 2), .int (Dp ps d p q - ((Dp ps d p q + Dp ps d p r - Dp ps d q r) / 2)), .int (Dp ps d p r - ((Dp ps d p q + Dp ps d p r - Dp ps d q r) / 2))]) nL2
      refine ⟨.ref W, .ref L2', .list [.int ((Dp ps d p q + Dp ps d p r - Dp ps d q r) / 2), .int (Dp ps d p q - ((Dp ps d p q + Dp ps d p r - Dp ps d q r) / 2)), .int (Dp ps d p r - ((Dp ps d p q + Dp ps d p r - Dp ps d q r) / 2))], rfl, .lst List.not_mem_nil (k6 W _ eW' List.not_mem_nil) (Dts.ints [((Dp ps d p q + Dp ps d p r - Dp ps d q r) / 2), _, _]), .lst List.not_mem_nil upd_same (Dts.ints [((Dp ps d p q + Dp ps d p r - Dp ps d q r) / 2), _, _]), .lst (show 3 ≤ 1000 by decide) (fun e he => ?_), fun H7 k7 => ⟨_, rfl, iteF ?_⟩⟩
      · rcases List.mem_cons.mp he with rfl | he
        · exact .int 1 _
        · rcases List.mem_cons.mp he with rfl | he
          · exact .int 1 _
          · rw [List.mem_singleton.mp he]; exact .int 1 _
      have kH7 := kHG.trans (k6.trans k7)
      have dz7 := dz.keep (kL.trans (kG.trans (k6.trans k7)))
      refine ⟨h, rfl, o1, rfl, o3, rfl, v, rfl, h, o1, o3, v, n, ps, d, p, r, z, rfl, hh.keep kH7, hk, T, h1.keep kH7, h3.keep kH7, dz7, okp, okr, okz, fun H8 k8 => ⟨_, rfl, ?_⟩⟩
      rw [show btwB ps d p r z = true from decide_eq_true b1]
      refine iteT ?_
      have kH8 := kH7.trans k8
      refine ⟨h, rfl, o2, rfl, o3, rfl, v, rfl, h, o2, o3, v, n, ps, d, q, r, z, rfl, hh.keep kH8, hk, T, h2.keep kH8, h3.keep kH8, dz7.keep k8, okq, okr, okz, fun H9 k9 => ?_⟩
      rw [show btwB ps d q r z = true from decide_eq_true b2]
      exact kk H9 (kH8.trans k9)
end
end Rw

namespace Rw
/-! ### how far the next ones are -/
theorem map_all {α : Type} {f : α → Int} {b : Int} : ∀ {L : List α}, (∀ z ∈ L, f z = b) → L.map f = List.replicate L.length b
  | [], _ => rfl
  | z :: L, h => by
    rw [List.map_cons, List.length_cons, List.replicate_succ, h z List.mem_cons_self, map_all fun y hy => h y (List.mem_cons_of_mem _ hy)]
theorem map_one {α : Type} {f : α → Int} {a b : Int} {u : α} : ∀ {L : List α}, L.Nodup → u ∈ L → f u = a → (∀ z ∈ L, z ≠ u → f z = b) → (L.map f).Perm (a :: List.replicate (L.length - 1) b)
  | [], _, m, _, _ => absurd m List.not_mem_nil
  | z :: L, nd, m, e, h => by
    obtain ⟨nz, nd'⟩ := List.nodup_cons.mp nd
    by_cases c : z = u
    · subst c
      rw [List.map_cons, e, map_all (b := b) fun y hy => h y (List.mem_cons_of_mem _ hy) (fun w => nz (w ▸ hy))]
      exact List.Perm.refl _
    · have m' : u ∈ L := (List.mem_cons.mp m).resolve_left (Ne.symm c)
      have ih := map_one nd' m' e (fun y hy => h y (List.mem_cons_of_mem _ hy))
      rw [List.map_cons, h z List.mem_cons_self c]
      have len : (z :: L).length - 1 = (L.length - 1) + 1 := by
        have := List.length_pos_of_mem m'
        rw [List.length_cons]; omega
      rw [len, List.replicate_succ]
      exact (List.Perm.cons b ih).trans (List.Perm.swap a b _)
section
variable {n : Int} {ps : List Pi} {d : Int → Int → Int} (T : Tm n ps d)
include T
theorem near_dists {p q : Pl} (hp : okP n ps p) (hq : okP n ps q) {L : List Pl} (hL : L.Perm (besideL ps p)) :
    (L.map fun z => Dp ps d z q).Perm (List.replicate (if 0 < Dp ps d p q then 1 else 0) (Dp ps d p q - 1) ++ List.replicate (L.length - (if 0 < Dp ps d p q then 1 else 0)) (Dp ps d p q + 1)) := by
  have mem : ∀ z, z ∈ L ↔ Adj ps p z := fun z => (hL.mem_iff).trans (mem_beside T hp)
  have ndL : L.Nodup := hL.nodup_iff.mpr (beside_nodup T hp)
  have sy : ∀ z ∈ L, Dp ps d z q = Dp ps d q z := fun z hz => Dp_sym T (ok_adj T ((mem z).mp hz)) hq
  have sp := Dp_sym T hp hq
  by_cases c : 0 < Dp ps d p q
  · rw [if_pos c]
    have ne : p ≠ q := fun z => by rw [z, Dp_self T hq] at c; omega
    obtain ⟨u, au, eu⟩ := Dp_par T hq hp ne
    have := map_one (f := fun z => Dp ps d z q) (a := Dp ps d p q - 1) (b := Dp ps d p q + 1) ndL ((mem u).mpr au) (by show Dp ps d u q = _; rw [sy u ((mem u).mpr au)]; omega) (fun z hz nz => by
      show Dp ps d z q = _
      rw [sy z hz]
      rcases Dp_step T hq ((mem z).mp hz) with w | w
      · omega
      · exact absurd (Dp_uni T hq hp ((mem z).mp hz) au w eu) nz)
    exact this
  · rw [if_neg c]
    have nn := Dp_nn T hp hq
    have e := map_all (f := fun z => Dp ps d z q) (b := Dp ps d p q + 1) (L := L) (fun z hz => by
      show Dp ps d z q = _
      rw [sy z hz]
      have nz := Dp_nn T hq (ok_adj T ((mem z).mp hz))
      rcases Dp_step T hq ((mem z).mp hz) with w | w <;> omega)
    rw [e]
    exact List.Perm.refl _
end
end Rw

namespace Rw
open PySem PySem.Spec PyProof.Rows L2
theorem eqv_ints : ∀ p q : List Int, PyData.eqvAll (p.map .int) (q.map .int) = decide (p = q)
  | [], [] => by simp [PyData.eqvAll]
  | [], _ :: _ => by simp [PyData.eqvAll]
  | _ :: _, [] => by simp [PyData.eqvAll]
  | a :: p, b :: q => by
    rw [List.map_cons, List.map_cons]
    simp only [PyData.eqvAll, PyData.eqv, eqv_ints p q]
    rw [Bool.eq_iff_iff]
    simp
theorem eqv_tupI (p q : List Int) : PyData.eqv (tupI p) (tupI q) = decide (p = q) := by
  show PyData.eqv (.tuple (p.map .int)) (.tuple (q.map .int)) = _
  simp only [PyData.eqv, eqv_ints]
theorem tupI_shaped (p : List Int) : SeqAt.shaped (tupI p) = true := by
  refine shaped_of ?_ ?_
  · show PyData.canLay0 (.tuple (p.map .int)) = true
    simp only [PyData.canLay0, tupI_lay p]
  · have : PyData.depth (.tuple (p.map .int)) ≤ 64 := by simp [PyData.depth, tupI_depths p]
    exact this
theorem tupI_dp {K : PySem.W.Frag} {av : List Addr} {H : Hp} {v : V} {p : List Int} (h : Dt av H v (tupI p)) : L2.Dp K H v (tupI p) := by
  refine Dt.dp _ _ h ?_
  show PyData.canLay0 (.tuple (p.map .int)) = true
  simp only [PyData.canLay0, tupI_lay p]
theorem beside_len {n : Int} {ps : List Pi} (hk : HouseOk n ps) (p : Pl) : (besideL ps p).length ≤ 60 := by
  have row : ∀ (r : Int) (i : Nat), (doorRow ps r i).length ≤ 2 := fun r i => by
    unfold doorRow
    rw [List.length_append]
    split <;> split <;> simp
  have all : ∀ (r : Int) (m : Nat), (doorsTo ps r m).length ≤ 2 * m := fun r m => by
    induction m with
    | zero => exact Nat.le_refl 0
    | succ m ih =>
      rw [doorsTo_succ, List.length_append]
      have := row r m
      omega
  unfold besideL
  split
  · rw [List.length_map]
    have := all ‹Int› ps.length
    have := hk.len
    have := hk.n2
    omega
  · exact (by decide : 2 ≤ 60)
  · exact Nat.zero_le _
theorem ints_shaped (ns : List Int) : SeqAt.shaped (.list (ns.map .int)) = true := by
  refine shaped_of ?_ ?_
  · simp only [PyData.canLay0, tupI_lay ns]
  · have : PyData.depth (.list (ns.map .int)) ≤ 64 := by simp [PyData.depth, tupI_depths ns]
    exact this
theorem eqv_intsL (p q : List Int) : PyData.eqv (.list (p.map .int)) (.list (q.map .int)) = decide (p = q) := by
  simp only [PyData.eqv, eqv_ints]
theorem sorted_same {l m : List Int} (h : l.Perm m) (hl : l.Pairwise (· ≤ ·)) (hm : m.Pairwise (· ≤ ·)) : l = m :=
  List.Perm.eq_of_pairwise (fun a b _ _ h1 h2 => Int.le_antisymm h1 h2) hl hm h
theorem rep1 (k : Nat) (x : Int) : (List.replicate k [V.int x]).flatten = (List.replicate k x).map V.int := by
  induction k with
  | zero => rfl
  | succ k ih => rw [List.replicate_succ, List.flatten_cons, ih, List.replicate_succ]; rfl
section
variable {P : Program} {w : World} {K : PySem.W.Frag} {mg : Str → Option Value} {base : Heap}
abbrev sTwo : Stmt := topS 41
abbrev nTwo : List Str := ["_law_deck_here", "_law_house_here", "_law_one_here", "_law_other", "_law_far", "_law_many", "_law_place_here", "_law_again", "_law_told", "_law_near", "_law_due"]
theorem scTwo : FnScope nTwo ["_law_deck_here", "_law_house_here", "_law_one_here", "_law_other"] (defScope sTwo) := ⟨rfl, rfl, rfl, by decide +kernel, rfl, by decide +kernel, by decide +kernel⟩
def spTwo : Sp := fun vs H Q _ => ∃ (D C R : Addr) (h o1 o2 : V) (n b : Int) (ps : List Pi) (d : Int → Int → Int) (p q : Pl), vs = [.ref D, h, o1, o2] ∧ Dt [D, R] H h (houseD n (ps.map Pi.dat)) ∧ HouseOk n ps ∧ Tm n ps d ∧ Dt [D, R] H o1 (tupI p) ∧ Dt [D, R] H o2 (tupI q) ∧ okP n ps p ∧ okP n ps q ∧ Deck H D C R b ∧ b ≤ 600000000 ∧ ∀ H', Keep [D, R] H H' → Deck H' D C R (b + 10) → Q (.bl true) H'
theorem ok_two (h : Has K mg "_law_two_right" sTwo) (B : Blt mg) (CQ : Can P w K mg base "distance_of" ["house", "one", "other"] 4 spDist) (CT : Can P w K mg base "place_on" ["house", "one", "other", "steps"] 5 spOn) (CI : Can P w K mg base "is_between" ["house", "one", "other", "place"] 5 spBtw) (CX : Can P w K mg base "next_to" ["house", "place"] 4 spNxt)
    (CS : Can P w K mg base "_law_same" ["_law_found", "_law_due"] 3 (spSameD 2)) (CL : Can P w K mg base "is_place" ["house", "thing"] 3 spPlaceP) (CE : Can P w K mg base "_law_edge" ["_law_deck_here", "_law_many"] 3 spEdge) : Can P w K mg base "_law_two_right" ["_law_deck_here", "_law_house_here", "_law_one_here", "_law_other"] 6 spTwo := by
  obtain ⟨f, fd, F, g⟩ := h
  refine ⟨f, fd, F.ok (k := 5) scTwo (fun vs H Q E h => ?_) (fun cdv A outer s H vs Q E hr h => ?_), g, F.kp, F.binds fun _ _ _ _ _ _ us hl => match us, hl with | [_, _, _, _], _ => rfl⟩
  · obtain ⟨D, C, R, h, o1, o2, n, b, ps, d, p, q, rfl, _⟩ := h
    rfl
  · obtain ⟨D, C, R, h, o1, o2, n, b, ps, d, p, q, rfl, hh, hk, T, h1, h2, okp, okq, dk, hb, kk⟩ := h
    have far0 := Dp_nn T okp okq
    have far1 := places_far T hk.n2 (fun p m => (hk.ok p m).fit.l2) okp okq
    have sym := Dp_sym T okp okq
    refine ⟨_, pss_cons (ps_set (i := 4) scTwo.nd rfl (by first | exact Or.inl rfl | exact Or.inr rfl) (pe_can CQ (hr.mono (by decide)) (by rfl) (pa_cons (pv 1) (pa_cons (pv 2) (pa_cons (pv 3) pa_nil)))))
      (pss_cons (ps_if (PW.pt (pw_or (pt_not (pt_val (pe_can CS (hr.mono (by decide)) (by rfl) (pa_cons (pe_can CQ (hr.mono (by decide)) (by rfl) (pa_cons (pv 1) (pa_cons (pv 3) (pa_cons (pv 2) pa_nil)))) (pa_cons (pv 4) pa_nil))))) (pw_or1 (pt_cmpR op_ne (pe_cmpR op_eq (pv 4) pe_int (nomark _)) (pe_cmpR (op_eqD hr.units) (pv 2) (pv 3) (nomark _)) (nomark _))))) (pss_one (ps_ret pe_bl)) pss_nil)
      (pss_cons (ps_for PassesOwn.never rfl (pi_list (pe_lst (pa_cons pe_int (pa_cons (pv 4) (pa_cons (pe_can CE (hr.mono (by decide)) (by rfl) (pa_cons (pv 0) (pa_cons (pe_op op_add (pv 4) pe_int) pa_nil))) (pa_cons (pe_op op_fdiv (pv 4) pe_int) pa_nil)))))) (pg_name (i := 5) scTwo.nd rfl (by first | exact Or.inl rfl | exact Or.inr rfl))
      (pss_cons (ps_set (i := 6) scTwo.nd rfl (by first | exact Or.inl rfl | exact Or.inr rfl) (pe_can CT (hr.mono (by decide)) (by rfl) (pa_cons (pv 1) (pa_cons (pv 2) (pa_cons (pv 3) (pa_cons (pv 5) pa_nil))))))
      (pss_cons (ps_set (i := 7) scTwo.nd rfl (by first | exact Or.inl rfl | exact Or.inr rfl) (pe_can CT (hr.mono (by decide)) (by rfl) (pa_cons (pv 1) (pa_cons (pv 3) (pa_cons (pv 2) (pa_cons (pe_op op_sub (pv 4) (pv 5)) pa_nil))))))
      (pss_cons (ps_if (PW.pt (pw_or (pt_not (pt_val (pe_can CL (hr.mono (by decide)) (by rfl) (pa_cons (pv 1) (pa_cons (pv 6) pa_nil))))) (pw_or1 (pt_not (pt_val (pe_can CS (hr.mono (by decide)) (by rfl) (pa_cons (pv 7) (pa_cons (pv 6) pa_nil)))))))) (pss_one (ps_ret pe_bl)) pss_nil)
      (pss_cons (ps_set (i := 8) scTwo.nd rfl (by first | exact Or.inl rfl | exact Or.inr rfl) (pe_lst (pa_cons (pe_can CQ (hr.mono (by decide)) (by rfl) (pa_cons (pv 1) (pa_cons (pv 2) (pa_cons (pv 6) pa_nil)))) (pa_cons (pe_can CQ (hr.mono (by decide)) (by rfl) (pa_cons (pv 1) (pa_cons (pv 6) (pa_cons (pv 3) pa_nil)))) (pa_cons (pe_can CI (hr.mono (by decide)) (by rfl) (pa_cons (pv 1) (pa_cons (pv 2) (pa_cons (pv 3) (pa_cons (pv 6) pa_nil))))) pa_nil)))))
      (pss_one (ps_if (pt_not (pt_val (pe_can CS (hr.mono (by decide)) (by rfl) (pa_cons (pv 8) (pa_cons (pe_lst (pa_cons (pv 5) (pa_cons (pe_op op_sub (pv 4) (pv 5)) (pa_cons pe_bl pa_nil)))) pa_nil))))) (pss_one (ps_ret pe_bl)) pss_nil)))))))
      (pss_cons (ps_setLc (i := 9) (own := [("_law_place_here", 6)]) (g := gName 6) (tt := tYes) rfl scTwo.nd rfl rfl (sw_true rfl rfl rfl (by decide +kernel)) (pi_tup (pe_can CX (hr.mono (by decide)) (by rfl) (pa_cons (pv 1) (pa_cons (pv 2) pa_nil)))) (blkOk_by (N := nTwo) (sc := defScope sTwo) (by decide +kernel)) (fun _ _ _ _ _ => (pg_name (i := 6) scTwo.nd rfl (by first | exact Or.inl rfl | exact Or.inr rfl))) (fun _ _ _ _ _ => pts_nil) (fun _ _ _ _ _ => (pe_can CQ (hr.mono (by decide)) (by rfl) (pa_cons (pv 1) (pa_cons (pv 6) (pa_cons (pv 3) pa_nil))))))
      (pss_cons (ps_set (i := 10) scTwo.nd rfl (by first | exact Or.inl rfl | exact Or.inr rfl) (pe_callB cr_sorted (by rfl) B.sorted_ boot_sorted (pa_cons (pe_op op_cat (pe_op op_rep (pe_lst (pa_cons (pe_op op_sub (pv 4) pe_int) pa_nil)) (pe_callTy call_int1 (by rfl) B.int_ boot_int (pa_cons (pe_cmpR op_gt (pv 4) pe_int (nomark _)) pa_nil))) (pe_op op_rep (pe_lst (pa_cons (pe_op op_add (pv 4) pe_int) pa_nil)) (pe_op op_sub (pe_callB call_len_seq (by rfl) B.len_ PySem.boot_len (pa_cons (pv 9) pa_nil)) (pe_callTy call_int1 (by rfl) B.int_ boot_int (pa_cons (pe_cmpR op_gt (pv 4) pe_int (nomark _)) pa_nil))))) pa_nil)))
      (pss_one (ps_ret (pe_cmpR (op_eqD hr.units) (pe_callB cr_sorted (by rfl) B.sorted_ boot_sorted (pa_cons (pv 9) pa_nil)) (pv 10) (nomark _)))))))), ?_⟩
    have dat : ∀ (M : Hp), Keep [D, R] H M → Dt [] M h (houseD n (ps.map Pi.dat)) ∧ Dt [] M o1 (tupI p) ∧ Dt [] M o2 (tupI q) := fun M kM => ⟨(hh.keep kM).nil, (h1.keep kM).nil, (h2.keep kM).nil⟩
    obtain ⟨a1, a2, a3⟩ := dat H (Keep.refl _ _)
    refine ⟨h, rfl, o1, rfl, o2, rfl, h, o1, o2, n, ps, d, p, q, rfl, a1, hk, T, a2, a3, okp, okq, fun H1 k1 => ?_⟩
    obtain ⟨a1, a2, a3⟩ := dat H1 k1.of
    refine ⟨h, rfl, o2, rfl, o1, rfl, h, o2, o1, n, ps, d, q, p, rfl, a1, hk, T, a3, a2, okq, okp, fun H2 k2 => ?_⟩
    refine ⟨.int (Dp ps d p q), rfl, .int (Dp ps d q p), .int (Dp ps d p q), .int (Dp ps d p q), rfl, by rw [sym]; exact .int _, .int _, .int 2 _, fun H3 k3 => ⟨_, rfl, iteF ?_⟩⟩
    have k03 : Keep [] H H3 := k1.trans (k2.trans k3)
    obtain ⟨a1, a2, a3⟩ := dat H3 k03.of
    refine ⟨.int (Dp ps d p q), rfl, rfl, o1, rfl, o2, rfl, tupI p, tupI q, tupI_dp a2, tupI_dp a3, tupI_shaped p, tupI_shaped q, rfl, _, rfl, ite2 (fun e => ?_) (fun _ => ?_)⟩
    · exfalso
      rw [eqv_tupI] at e
      have ee : decide (V.int (Dp ps d p q) = V.int 0) = decide (p = q) := decide_eq_decide.mpr ⟨fun z => Dp_eq0 T okp okq (V.int.inj z), fun z => by rw [z, Dp_self T okq]⟩
      rw [ee, decide_eq_true rfl] at e
      cases e
    have dk3 : Deck H3 D C R b := dk.keep k03
    refine ⟨.int (Dp ps d p q), rfl, .ref D, rfl, .int (Dp ps d p q), rfl, _, 1, rfl, rfl, D, C, R, b, Dp ps d p q + 1, rfl, by omega, by omega, dk3, by omega, fun H4 t k4 dk4 t0 t1 => ?_⟩
    refine ⟨.int (Dp ps d p q), rfl, _, 2, rfl, rfl, ⟨by decide, by decide⟩, show 4 ≤ sizeLine by decide, fun L nL => ?_⟩
    have kL := Keep.new (av := []) (o := .lst [.int 0, .int (Dp ps d p q), .int t, .int (Dp ps d p q / 2)]) nL
    have eL : (upd H4 L (.lst [.int 0, .int (Dp ps d p q), .int t, .int (Dp ps d p q / 2)])) L = some (.lst [.int 0, .int (Dp ps d p q), .int t, .int (Dp ps d p q / 2)]) := upd_same
    have kH5 : Keep [D, R] H (upd H4 L (.lst [.int 0, .int (Dp ps d p q), .int t, .int (Dp ps d p q / 2)])) := (k03.of.trans k4).trans kL.of
    have dk5 := dk4.keep kL
    have items : ∀ (j : Nat) (x : V), ([.int 0, .int (Dp ps d p q), .int t, .int (Dp ps d p q / 2)] : List V)[j]? = some x → ∃ m : Int, x = .int m ∧ 0 ≤ m ∧ m ≤ Dp ps d p q := fun j x gx => by
      match j, gx with
      | 0, gx => exact ⟨0, (Option.some.inj gx).symm, by omega, by omega⟩
      | 1, gx => exact ⟨_, (Option.some.inj gx).symm, by omega, by omega⟩
      | 2, gx => exact ⟨t, (Option.some.inj gx).symm, by omega, by omega⟩
      | 3, gx => exact ⟨_, (Option.some.inj gx).symm, by omega, by omega⟩
      | j + 4, gx => simp at gx
    generalize upd H4 L (.lst [.int 0, .int (Dp ps d p q), .int t, .int (Dp ps d p q / 2)]) = H5 at kL eL kH5 dk5 ⊢
    refine ⟨L, rfl, ⟨_, SqL.of eL⟩, for_list (K := K) (a := L) (xs := [.int 0, .int (Dp ps d p q), .int t, .int (Dp ps d p q / 2)]) (fun j σ J => ∃ s5 s6 s7 s8 s9 s10, σ = [some (.ref D), some h, some o1, some o2, some (.int (Dp ps d p q)), s5, s6, s7, s8, s9, s10] ∧ Keep [] H5 J) ⟨_, _, _, _, _, _, rfl, Keep.refl _ _⟩ (fun j σ J _ pp => ?_) (fun j x σ J hx pp => ?_) (fun σ J pp => ?_)⟩
    · obtain ⟨_, _, _, _, _, _, _, kJ⟩ := pp
      exact SqL.of (kJ L _ eL List.not_mem_nil)
    · obtain ⟨s5, s6, s7, s8, s9, s10, rfl, kJ⟩ := pp
      obtain ⟨m, rfl, m0, m1⟩ := items j x hx
      obtain ⟨a1, a2, a3⟩ := dat J (kH5.trans kJ.of)
      refine ⟨h, rfl, o1, rfl, o2, rfl, .int m, rfl, h, o1, o2, n, m, ps, d, p, q, rfl, a1, hk, T, a2, a3, okp, okq, m0, m1, fun J1 v z k1' dz okz z1 z2 => ?_⟩
      obtain ⟨a1, a2, a3⟩ := dat J1 ((kH5.trans kJ.of).trans k1'.of)
      refine ⟨h, rfl, o2, rfl, o1, rfl, .int (Dp ps d p q), rfl, .int m, rfl, _, m, rfl, rfl, h, o2, o1, n, Dp ps d p q - m, ps, d, q, p, rfl, a1, hk, T, a3, a2, okq, okp, by omega, by omega, fun J2 v2 z' k2' dz' okz' y1 y2 => ?_⟩
      have szp := Dp_sym T okz' okp
      have szq := Dp_sym T okz' okq
      have ez : z' = z := btw_one T okp okz' okz _ q okq rfl (show Dp ps d p z' + Dp ps d z' q = Dp ps d p q by omega) (show Dp ps d p z + Dp ps d z q = Dp ps d p q by omega) (by omega)
      subst ez
      obtain ⟨a1, a2, a3⟩ := dat J2 ((kH5.trans kJ.of).trans (k1'.trans k2').of)
      have dz2 := dz.keep k2'
      refine ⟨h, rfl, v, rfl, h, v, n, ps.map Pi.dat, tupI z', [], [], rfl, a1, pis_ok ps, dz2, _, rfl, ite2 (fun e => ?_) (fun _ => ?_)⟩
      · exfalso
        rw [ok_isPlace okz] at e
        cases e
      refine ⟨v2, rfl, v, rfl, v2, v, tupI z', rfl, dz', dz2, .tup (by rw [List.length_map]; rcases ok_cases okz with ⟨r, rfl, _⟩ | ⟨i, a, rfl, _⟩ <;> first | exact (by decide : 1 ≤ 1000) | exact (by decide : 2 ≤ 1000)) (fun e he => by obtain ⟨i, _, rfl⟩ := List.mem_map.mp he; exact .int 1 i), fun J3 k3' => ⟨_, rfl, iteF ?_⟩⟩
      have kJ3 := (kH5.trans kJ.of).trans (k1'.trans (k2'.trans k3')).of
      obtain ⟨a1, a2, a3⟩ := dat J3 kJ3
      have dz3 := dz2.keep k3'
      refine ⟨h, rfl, o1, rfl, v, rfl, h, o1, v, n, ps, d, p, z', rfl, a1, hk, T, a2, dz3, okp, okz, fun J4 k4' => ?_⟩
      obtain ⟨a1, a2, a3⟩ := dat J4 (kJ3.trans k4'.of)
      refine ⟨h, rfl, v, rfl, o2, rfl, h, v, o2, n, ps, d, z', q, rfl, a1, hk, T, dz3.keep k4', a3, okz, okq, fun J5 k5' => ?_⟩
      obtain ⟨a1, a2, a3⟩ := dat J5 (kJ3.trans (k4'.trans k5').of)
      refine ⟨h, rfl, o1, rfl, o2, rfl, v, rfl, h, o1, o2, v, n, ps, d, p, q, z', rfl, a1, hk, T, a2, a3, dz3.keep (k4'.trans k5'), okp, okq, okz, fun J6 k6' => ?_⟩
      have eb : btwB ps d p q z' = true := decide_eq_true (by omega)
      refine ⟨show 3 ≤ sizeLine by decide, fun La nLa => ?_⟩
      refine ⟨.ref La, rfl, .int m, rfl, .int (Dp ps d p q), rfl, .int m, rfl, _, m, rfl, rfl, show 3 ≤ sizeLine by decide, fun Lb nLb => ?_⟩
      have kb := Keep.new (av := []) (o := .lst [.int m, .int (Dp ps d p q - m), .bl true]) nLb
      refine ⟨.ref La, .ref Lb, .list [.int m, .int (Dp ps d p q - m), .bool true], rfl, .lst List.not_mem_nil (kb La _ upd_same List.not_mem_nil) (.cons (by rw [z1]; exact .int _) (.cons (by rw [z2]; exact .int _) (.cons (by rw [eb]; exact .bl _) .nil))), .lst List.not_mem_nil upd_same (.cons (.int _) (.cons (.int _) (.cons (.bl _) .nil))), .lst (show 3 ≤ 1000 by decide) (fun e he => ?_), fun J7 k7' => ⟨_, rfl, iteF ?_⟩⟩
      · rcases List.mem_cons.mp he with rfl | he
        · exact .int 1 _
        · rcases List.mem_cons.mp he with rfl | he
          · exact .int 1 _
          · rw [List.mem_singleton.mp he]; exact .bool 1 _
      exact ⟨_, _, _, _, _, _, rfl, kJ.trans (k1'.trans (k2'.trans (k3'.trans (k4'.trans (k5'.trans (k6'.trans ((Keep.new nLa).trans (kb.trans k7'))))))))⟩
    · obtain ⟨s5, s6, s7, s8, s9, s10, rfl, kJ⟩ := pp
      have kHJ := kH5.trans kJ.of
      obtain ⟨a1, a2, a3⟩ := dat J kHJ
      refine ⟨h, rfl, o1, rfl, h, o1, n, ps, d, p, [], rfl, a1, hk, T, a2, okp, (show Tr [] J from fun _ m => absurd m List.not_mem_nil), fun H6 Tt us k6 _ _ eT du => ?_⟩
      have hL : (sortL (besideL ps p)).Perm (besideL ps p) := List.mergeSort_perm _ _
      have lus : us.length = (sortL (besideL ps p)).length := by rw [du.len, List.length_map]
      have few : us.length ≤ 60 := by rw [lus, hL.length_eq]; exact beside_len hk p
      refine ⟨Tt, rfl, ⟨_, SqT.of eT⟩, fun W nW => ?_⟩
      refine lc_tup (K := K) (a := Tt) (xs := us) (fun t G => Keep [] H6 G ∧ G W = some (.lst ((((sortL (besideL ps p)).take t).map fun z => Dp ps d z q).map V.int))) ⟨Keep.new nW, upd_same⟩ (fun t G _ pp => SqT.of (pp.1 Tt _ eT List.not_mem_nil)) (fun t x G hx pp => ?_) (fun G pp => ?_)
      · obtain ⟨kG, eW⟩ := pp
        obtain ⟨dd, gd, dx⟩ := (du.keep kG).getv t hx
        rw [List.getElem?_map] at gd
        obtain ⟨z, gz, rfl⟩ := Option.map_eq_some_iff.mp gd
        have okz := ok_adj T ((mem_beside T okp).mp ((List.mem_mergeSort (le := leI)).mp (List.mem_of_getElem? gz)))
        obtain ⟨a1, a2, a3⟩ := dat G (kHJ.trans (k6.trans kG).of)
        refine ⟨rfl, h, rfl, x, rfl, o2, rfl, h, x, o2, n, ps, d, z, q, rfl, a1, hk, T, dx, a3, okz, okq, fun G2 k2' => ?_⟩
        have eW2 := k2' W _ eW List.not_mem_nil
        have tl := (List.getElem?_eq_some_iff.mp hx).1
        refine ⟨_, eW2, by rw [List.length_map, List.length_map, List.length_take]; exact Nat.lt_of_le_of_lt (Nat.min_le_left _ _) (Nat.lt_of_lt_of_le (by omega : t < 1000) (small1000 (by omega))), (kG.trans k2').upd nW, ?_⟩
        rw [upd_same, List.take_add_one, gz]
        simp
      · obtain ⟨kG, eW⟩ := pp
        rw [lus, List.take_length] at eW
        have lnr : ((((sortL (besideL ps p)).map fun z => Dp ps d z q).map V.int).length : Nat) = us.length := by rw [List.length_map, List.length_map, lus]
        have nd := near_dists T okp okq hL
        have dkG : Deck G D C R (b + 3) := (dk5.keep kJ).keep (k6.trans kG)
        have kHG : Keep [D, R] H G := kHJ.trans (k6.trans kG).of
        refine ⟨.int (Dp ps d p q), rfl, _, 1, rfl, rfl, show 1 ≤ sizeLine by decide, fun L1 nL1 => ?_⟩
        have hE0 : 0 ≤ (if decide (Dp ps d p q > 0) = true then (1 : Int) else 0) ∧ (if decide (Dp ps d p q > 0) = true then (1 : Int) else 0) ≤ 1 := by split <;> decide
        have hE1 : ((if decide (Dp ps d p q > 0) = true then (1 : Int) else 0)).toNat = (if 0 < Dp ps d p q then 1 else 0) := by
          by_cases c : 0 < Dp ps d p q
          · rw [if_pos c, if_pos (decide_eq_true c)]; rfl
          · rw [if_neg c, if_neg (fun z => c (of_decide_eq_true z))]; rfl
        have kN1 : ((if decide (Dp ps d p q > 0) = true then (1 : Int) else 0)).toNat ≤ 1 := by omega
        refine ⟨.int (Dp ps d p q), rfl, _, 0, rfl, rfl, .inr ⟨_, rfl, L1, (if decide (Dp ps d p q > 0) = true then (1 : Int) else 0), _, rfl, rfl, upd_same, by omega, by omega, by show 1 * ((if decide (Dp ps d p q > 0) = true then (1 : Int) else 0)).toNat ≤ sizeLine; rw [Nat.one_mul]; exact Nat.le_trans kN1 (show 1 ≤ sizeLine by decide), fun L3 nL3 => ?_⟩⟩
        have k3 := (Keep.new (av := []) (o := .lst [.int (Dp ps d p q - 1)]) nL1).trans (Keep.new (av := []) (o := .lst (List.replicate ((if decide (Dp ps d p q > 0) = true then (1 : Int) else 0)).toNat [V.int (Dp ps d p q - 1)]).flatten) nL3)
        have eL3 : (upd (upd G L1 (.lst [.int (Dp ps d p q - 1)])) L3 (.lst (List.replicate ((if decide (Dp ps d p q > 0) = true then (1 : Int) else 0)).toNat [V.int (Dp ps d p q - 1)]).flatten)) L3 = some (.lst (List.replicate ((if decide (Dp ps d p q > 0) = true then (1 : Int) else 0)).toNat [V.int (Dp ps d p q - 1)]).flatten) := upd_same
        generalize upd (upd G L1 (.lst [.int (Dp ps d p q - 1)])) L3 (.lst (List.replicate ((if decide (Dp ps d p q > 0) = true then (1 : Int) else 0)).toNat [V.int (Dp ps d p q - 1)]).flatten) = G3 at k3 eL3 ⊢
        refine ⟨.int (Dp ps d p q), rfl, _, 1, rfl, rfl, show 1 ≤ sizeLine by decide, fun L4 nL4 => ?_⟩
        have k4' := Keep.new (av := []) (o := .lst [.int (Dp ps d p q + 1)]) nL4
        have eW4 := (k3.trans k4') W _ eW List.not_mem_nil
        have hlen : (((List.map V.int (List.map (fun z => Dp ps d z q) (sortL (besideL ps p)))).length : Int) - (if decide (Dp ps d p q > 0) = true then (1 : Int) else 0)).toNat = us.length - ((if decide (Dp ps d p q > 0) = true then (1 : Int) else 0)).toNat := by omega
        have fewr : us.length - ((if decide (Dp ps d p q > 0) = true then (1 : Int) else 0)).toNat ≤ 60 := by omega
        refine ⟨.ref W, rfl, W, _, rfl, .inl (SqL.of eW4), .int (Dp ps d p q), rfl, _, 0, rfl, rfl, .inr ⟨_, rfl, ((List.map V.int (List.map (fun z => Dp ps d z q) (sortL (besideL ps p)))).length : Int), (if decide (Dp ps d p q > 0) = true then (1 : Int) else 0), rfl, rfl, L4, ((List.map V.int (List.map (fun z => Dp ps d z q) (sortL (besideL ps p)))).length : Int) - (if decide (Dp ps d p q > 0) = true then (1 : Int) else 0), _, rfl, rfl, upd_same, by omega, by omega, by show 1 * (((List.map V.int (List.map (fun z => Dp ps d z q) (sortL (besideL ps p)))).length : Int) - (if decide (Dp ps d p q > 0) = true then (1 : Int) else 0)).toNat ≤ sizeLine; rw [Nat.one_mul, hlen]; exact Nat.le_trans fewr (show 60 ≤ sizeLine by decide), fun L5 nL5 => ?_⟩⟩
        have k5' := k3.trans (k4'.trans (Keep.new (av := []) (o := .lst (List.replicate (((List.map V.int (List.map (fun z => Dp ps d z q) (sortL (besideL ps p)))).length : Int) - (if decide (Dp ps d p q > 0) = true then (1 : Int) else 0)).toNat [V.int (Dp ps d p q + 1)]).flatten) nL5))
        have k35 := k4'.trans (Keep.new (av := []) (o := .lst (List.replicate (((List.map V.int (List.map (fun z => Dp ps d z q) (sortL (besideL ps p)))).length : Int) - (if decide (Dp ps d p q > 0) = true then (1 : Int) else 0)).toNat [V.int (Dp ps d p q + 1)]).flatten) nL5)
        have eL35 := k35 L3 _ eL3 List.not_mem_nil
        refine ⟨L3, L5, _, _, rfl, rfl, eL35, upd_same, ?_, fun L6 nL6 => ?_⟩
        · rw [rep1, rep1, List.length_map, List.length_map, List.length_replicate, List.length_replicate, hlen]
          exact Nat.le_trans (by omega : _ ≤ 100) (show 100 ≤ sizeLine by decide)
        rw [← lus] at nd
        have kN2 : (if 0 < Dp ps d p q then 1 else 0 : Nat) ≤ 1 := by split <;> omega
        refine ⟨L6, List.replicate (if 0 < Dp ps d p q then 1 else 0) (Dp ps d p q - 1) ++ List.replicate (us.length - (if 0 < Dp ps d p q then 1 else 0)) (Dp ps d p q + 1), rfl, SqL.of (upd_same.trans (by rw [rep1, rep1, hlen, hE1, List.map_append])), ?_, fun ns' L7 pm sr nL7 => ?_⟩
        · rw [List.length_append, List.length_replicate, List.length_replicate]
          omega
        have k67 := k5'.trans ((Keep.new nL6).trans (Keep.new (av := []) (o := .lst (ns'.map V.int)) nL7))
        have eW7 := k67 W _ eW List.not_mem_nil
        refine ⟨.ref W, rfl, W, List.map (fun z => Dp ps d z q) (sortL (besideL ps p)), rfl, SqL.of eW7, by rw [List.length_map, ← lus]; omega, fun ms' L8 pm2 sr2 nL8 => ?_⟩
        have k8 := Keep.new (av := []) (o := .lst (ms'.map V.int)) nL8
        have e78 := k8 L7 _ upd_same List.not_mem_nil
        have same : ms' = ns' := sorted_same (pm2.trans (nd.trans pm.symm)) sr2 sr
        subst same
        refine ⟨.ref L7, rfl, .list (ms'.map .int), .list (ms'.map .int), Dt.dp (av := []) _ _ (.lst List.not_mem_nil upd_same (Dts.ints ms')) (by simp only [PyData.canLay0, tupI_lay]), Dt.dp (av := []) _ _ (.lst List.not_mem_nil e78 (Dts.ints ms')) (by simp only [PyData.canLay0, tupI_lay]), ints_shaped _, ints_shaped _, ?_⟩
        have ee : PyData.eqv (.list (ms'.map .int)) (.list (ms'.map .int)) = true := by rw [eqv_intsL]; exact decide_eq_true rfl
        rw [ee]
        exact kk _ (kHG.trans (k67.trans k8).of) ((dkG.keep (k67.trans k8)).mono (by omega))
end
end Rw

namespace Rw
open PySem PySem.Spec PyProof.Rows L2
section
variable {P : Program} {w : World} {K : PySem.W.Frag} {mg : Str → Option Value} {base : Heap}
abbrev sLaw : Stmt := topS 44
abbrev nLaw : List Str := ["_law_script", "_law_deck_here", "_law_turn", "_law_house_here", "_law_k", "_law_place_here", "_law_one_here", "_law_other", "_law_third"]
theorem scLaw : FnScope nLaw ["_law_script"] (defScope sLaw) := ⟨rfl, rfl, rfl, by decide +kernel, rfl, by decide +kernel, by decide +kernel⟩
def spLaw (K : PySem.W.Frag) : Sp := fun vs H Q _ => ∃ (a : Addr) (ns : List Int), vs = [.ref a] ∧ SqL K H a (ns.map V.int) ∧ ns.length ≤ 63 ∧ ∀ H', Q (.bl true) H'
theorem ok_law {f : Addr} {fd : FuncData} (F : Fun K "law" "law" sLaw f fd) (B : Blt mg) (CD : Can P w K mg base "_law_deck" ["_law_script"] 1 (spDeck K)) (CN : Can P w K mg base "_law_next" ["_law_deck_here", "_law_many"] 1 spNext) (CH : Can P w K mg base "_law_house" ["_law_deck_here", "_law_most", "_law_far", "_law_flaps"] 6 spHouse)
    (CP : Can P w K mg base "_law_place" ["_law_deck_here", "_law_house_here"] 4 spPlaceL) (C2 : Can P w K mg base "_law_two_right" ["_law_deck_here", "_law_house_here", "_law_one_here", "_law_other"] 6 spTwo) (CB : Can P w K mg base "_law_beyond_right" ["_law_house_here", "_law_one_here", "_law_other"] 6 spBey) (C3 : Can P w K mg base "_law_three_right" ["_law_house_here", "_law_one_here", "_law_other", "_law_third"] 6 spThr) :
    (∀ (s : Shared) (u : Value), BindsTo s fd ⟨[u], []⟩ [("_law_script", u)]) ∧ AtTop P w K mg base f fd "_law_script" (spLaw K) := by
  refine ⟨?_, atTop_of (k := 6) F scLaw ⟨rfl, by decide, by decide⟩ fun cdv s H v Q hr h => ?_⟩
  · obtain ⟨oc, od, kV, doc, pm, an, cdv, ct, osl, rfl, _, _⟩ := F.ex
    exact fun s u => .of_eq rfl
  · obtain ⟨a, ns, e, hS, hl, q⟩ := h
    cases e
    refine ⟨_, PSs.nox (pss_cons (ps_set (i := 1) scLaw.nd rfl (by first | exact Or.inl rfl | exact Or.inr rfl) (pe_can CD (hr.mono (by decide)) (by rfl) (pa_cons (pv 0) pa_nil)))
      (pss_cons (ps_for PassesOwn.never rfl (pi_range1 (by rfl) B.range_ (pa_cons pe_int pa_nil)) (pg_name (i := 2) scLaw.nd rfl (by first | exact Or.inl rfl | exact Or.inr rfl))
      (pss_cons (ps_set (i := 3) scLaw.nd rfl (by first | exact Or.inl rfl | exact Or.inr rfl) (pe_can CH (hr.mono (by decide)) (by rfl) (pa_cons (pv 1) (pa_cons (pe_ix ix_list (pe_lst (pa_cons pe_int (pa_cons pe_int (pa_cons pe_int pa_nil)))) (pe_can CN (hr.mono (by decide)) (by rfl) (pa_cons (pv 1) (pa_cons pe_int pa_nil))) (fun _ _ => rfl)) (pa_cons pe_int (pa_cons pe_int pa_nil))))))
      (pss_one (ps_for PassesOwn.never rfl (pi_range1 (by rfl) B.range_ (pa_cons pe_int pa_nil)) (pg_name (i := 4) scLaw.nd rfl (by first | exact Or.inl rfl | exact Or.inr rfl))
      (pss_cons (ps_asg (pe_lc (own := [("_law_place_here", 5)]) (g := gName 5) (tt := tYes) rfl scLaw.nd (pi_range1 (by rfl) B.range_ (pa_cons pe_int pa_nil)) (blkOk_by (N := nLaw) (sc := defScope sLaw) (by decide +kernel)) (fun _ _ _ _ _ => (pg_name (i := 5) scLaw.nd rfl (by first | exact Or.inl rfl | exact Or.inr rfl))) (fun _ _ _ _ _ => pts_nil) (fun _ _ _ _ _ => (pe_can CP (hr.mono (by decide)) (by rfl) (pa_cons (pv 1) (pa_cons (pv 3) pa_nil))))) (pg_unl (by rfl) (pgs_cons (pg_name (i := 6) scLaw.nd rfl (by first | exact Or.inl rfl | exact Or.inr rfl)) (pgs_cons (pg_name (i := 7) scLaw.nd rfl (by first | exact Or.inl rfl | exact Or.inr rfl)) (pgs_cons (pg_name (i := 8) scLaw.nd rfl (by first | exact Or.inl rfl | exact Or.inr rfl)) pgs_nil)))))
      (pss_cons (ps_if (PW.pt (pw_or (pt_not (pt_val (pe_can C2 (hr.mono (by decide)) (by rfl) (pa_cons (pv 1) (pa_cons (pv 3) (pa_cons (pv 6) (pa_cons (pv 7) pa_nil))))))) (pw_or1 (pt_not (pt_val (pe_can C2 (hr.mono (by decide)) (by rfl) (pa_cons (pv 1) (pa_cons (pv 3) (pa_cons (pv 6) (pa_cons (pv 6) pa_nil)))))))))) (pss_one (ps_ret pe_bl)) pss_nil)
      (pss_one (ps_if (PW.pt (pw_or (pt_not (pt_val (pe_can CB (hr.mono (by decide)) (by rfl) (pa_cons (pv 3) (pa_cons (pv 6) (pa_cons (pv 7) pa_nil)))))) (pw_or1 (pt_not (pt_val (pe_can C3 (hr.mono (by decide)) (by rfl) (pa_cons (pv 3) (pa_cons (pv 6) (pa_cons (pv 7) (pa_cons (pv 8) pa_nil)))))))))) (pss_one (ps_ret pe_bl)) pss_nil))))))))
      (pss_one (ps_ret pe_bl)))), ?_⟩
    refine ⟨.ref a, rfl, a, ns, rfl, hS, hl, fun H1 D C R _ _ _ _ dk1 => ?_⟩
    refine ⟨3, rfl, by decide, by decide, for_range (lo := 0) (n := 3) (fun i σ G => ∃ s2 s3 s4 s5 s6 s7 s8, σ = [some (.ref a), some (.ref D), s2, s3, s4, s5, s6, s7, s8] ∧ Deck G D C R (20000 * i)) ⟨_, _, _, _, _, _, _, rfl, dk1.mono (by omega)⟩ (fun i σ G hi pp => ?_) (fun σ G pp => ?_)⟩
    · obtain ⟨s2, s3, s4, s5, s6, s7, s8, rfl, dk⟩ := pp
      refine ⟨.ref D, rfl, show 3 ≤ sizeLine by decide, fun L nL => ?_⟩
      have kL := Keep.new (av := []) (o := .lst [.int 3, .int 6, .int 16]) nL
      have eL : (upd G L (.lst [.int 3, .int 6, .int 16])) L = some (.lst [.int 3, .int 6, .int 16]) := upd_same
      have hL := dk.ne nL
      have dkL := dk.keep kL
      generalize upd G L (.lst [.int 3, .int 6, .int 16]) = GL at kL eL dkL ⊢
      refine ⟨.ref D, rfl, D, C, R, _, 3, rfl, by decide, by decide, dkL, by omega, fun G1 k kG1 dkG1 k0 k1 => ?_⟩
      obtain ⟨most, gm, m1, m2⟩ : ∃ most : Int, ([.int 3, .int 6, .int 16] : List V)[k.toNat]? = some (.int most) ∧ 1 ≤ most ∧ most ≤ 16 := by
        have : k = 0 ∨ k = 1 ∨ k = 2 := by omega
        rcases this with rfl | rfl | rfl
        · exact ⟨3, rfl, by decide, by decide⟩
        · exact ⟨6, rfl, by decide, by decide⟩
        · exact ⟨16, rfl, by decide, by decide⟩
      obtain ⟨⟨oD, eD⟩, _, ⟨oR, eR⟩⟩ := dkG1.at
      have tr : Tr [D, R] G1 := fun z m => by
        rcases List.mem_cons.mp m with m | m
        · rw [m]; exact ⟨_, eD⟩
        · rw [List.mem_singleton.mp m]; exact ⟨_, eR⟩
      refine ⟨L, _, k, .int most, rfl, rfl, SqL.of (kG1 L _ eL (notDR hL.1 hL.2.2)), atI_of k0 gm, D, C, R, _, most, 1, 1, [D, R], rfl, m1, m2, .inr rfl, by decide, by decide, dkG1, by omega, tr, List.mem_cons_self, List.mem_cons_of_mem _ List.mem_cons_self, fun H3 p n ps k3 dk3 n1 n2 ln okp con _ _ dh tr3 => ?_⟩
      have hk : HouseOk n ps := ⟨n1, n2, ln, fun p m => (okp p m).1⟩
      obtain ⟨d, T⟩ := tree n1 ln (fun p m => by have z := (okp p m).1; exact ⟨z.x0, by have := z.x1; omega, z.y0, by have := z.y1; omega, z.fit.l1⟩) con
      refine ⟨5, rfl, by decide, by decide, for_range (lo := 0) (n := 5) (fun t σ J => ∃ s2 s4 s5 s6 s7 s8, σ = [some (.ref a), some (.ref D), s2, some (.ref p), s4, s5, s6, s7, s8] ∧ Keep [D, R] H3 J ∧ Tr [D, R] J ∧ Deck J D C R (20000 * i + 3000 + 100 * t)) ⟨_, _, _, _, _, _, rfl, Keep.refl _ _, tr3, dk3.mono (by omega)⟩ (fun t σ J ht pp => ?_) (fun σ J pp => ?_)⟩
      · obtain ⟨s2, s4, s5, s6, s7, s8, rfl, kJ, trJ, dkJ⟩ := pp
        refine ⟨3, rfl, by decide, by decide, fun W nW => ?_⟩
        have hW := dkJ.ne nW
        have dhJ := dh.keep kJ
        refine lc_range (lo := 0) (n := 3) (fun u M => Keep [D, R] J M ∧ Tr [D, R] M ∧ Deck M D C R (20000 * i + 3000 + 100 * t + 10 * u) ∧ ∃ (vs : List V) (zs : List Pl), M W = some (.lst vs) ∧ vs.length = u ∧ Dts [D, R] M vs (zs.map tupI) ∧ ∀ z ∈ zs, okP n ps z)
          ⟨(Keep.new nW).of, trJ.upd, (dkJ.new nW).mono (by omega), [], [], upd_same, rfl, .nil, fun _ z => (nomatch z)⟩ (fun u M hu pp => ?_) (fun M pp => ?_)
        · obtain ⟨kM, trM, dkM, vs, zs, eW, lv, dv, okz⟩ := pp
          refine ⟨rfl, .ref D, rfl, .ref p, rfl, .ref p, D, C, R, n, _, ps, [D, R], rfl, dhJ.keep kM, n1, n2, ln, hk.ok, dkM, by omega, trM, List.mem_cons_self, List.mem_cons_of_mem _ List.mem_cons_self, fun M2 x z k2 dk2 _ dz okz' tr2 => ?_⟩
          have eW2 := k2 W _ eW (notDR hW.1 hW.2.2)
          have kt := keepTup (u := .lst (vs ++ [.ref x])) eW2 (fun xs z => by cases z)
          obtain ⟨x', ex, nx, exx⟩ := tupI_at dz
          cases ex
          refine ⟨vs, eW2, Nat.lt_of_lt_of_le (by omega : vs.length < 1000) (small1000 (by omega)), ?_, tr2.upd, (dk2.other hW.1 hW.2.1 hW.2.2).mono (by omega), vs ++ [.ref x], zs ++ [z], upd_same, by rw [List.length_append, lv]; rfl, ?_, fun y hy => ?_⟩
          · intro b o e nb
            rw [upd_ne (ne_of_none e nW)]
            exact k2 b _ (kM b _ e nb) nb
          · rw [List.map_append]
            exact (tups_keep kt _ _ (dv.keep k2)).app (.cons (.tup nx (kt x _ exx) (Dts.ints z)) .nil)
          · rcases List.mem_append.mp hy with m | m
            · exact okz y m
            · rw [List.mem_singleton.mp m]; exact okz'
        · obtain ⟨kM, trM, dkM, vs, zs, eW, lv, dv, okz⟩ := pp
          have lz : zs.length = 3 := by have := dv.len; rw [List.length_map] at this; omega
          obtain ⟨z1, z2, z3, rfl⟩ : ∃ z1 z2 z3, zs = [z1, z2, z3] := by
            match zs, lz with
            | [z1, z2, z3], _ => exact ⟨z1, z2, z3, rfl⟩
          obtain ⟨v1, v2, v3, rfl⟩ : ∃ v1 v2 v3, vs = [v1, v2, v3] := by
            match vs, lv with
            | [v1, v2, v3], _ => exact ⟨v1, v2, v3, rfl⟩
          have ok1 := okz z1 List.mem_cons_self
          have ok2 := okz z2 (List.mem_cons_of_mem _ List.mem_cons_self)
          have ok3 := okz z3 (List.mem_cons_of_mem _ (List.mem_cons_of_mem _ List.mem_cons_self))
          have dat : ∀ N, Keep [D, R] M N → Dt [D, R] N (.ref p) (houseD n (ps.map Pi.dat)) ∧ Dt [D, R] N v1 (tupI z1) ∧ Dt [D, R] N v2 (tupI z2) ∧ Dt [D, R] N v3 (tupI z3) := fun N kN => by
            have z := dv.keep kN
            cases z with
            | cons a1 z => cases z with
              | cons a2 z => cases z with
                | cons a3 z => exact ⟨(dhJ.keep kM).keep kN, a1, a2, a3⟩
          refine ⟨W, [v1, v2, v3], rfl, SqL.of eW, rfl, _, _, rfl, _, _, rfl, _, [], rfl, rfl, ?_⟩
          obtain ⟨a0, a1, a2, a3⟩ := dat M (Keep.refl _ _)
          refine ⟨.ref D, rfl, .ref p, rfl, v1, rfl, v2, rfl, D, C, R, .ref p, v1, v2, n, _, ps, d, z1, z2, rfl, a0, hk, T, a1, a2, ok1, ok2, dkM, by omega, fun N1 kN1 dkN1 => ⟨_, rfl, iteF ?_⟩⟩
          obtain ⟨a0, a1, a2, a3⟩ := dat N1 kN1
          refine ⟨.ref D, rfl, .ref p, rfl, v1, rfl, v1, rfl, D, C, R, .ref p, v1, v1, n, _, ps, d, z1, z1, rfl, a0, hk, T, a1, a1, ok1, ok1, dkN1, by omega, fun N2 kN2 dkN2 => ⟨_, rfl, iteF ?_⟩⟩
          obtain ⟨a0, a1, a2, a3⟩ := dat N2 (kN1.trans kN2)
          refine ⟨.ref p, rfl, v1, rfl, v2, rfl, .ref p, v1, v2, n, ps, d, z1, z2, rfl, a0.nil, hk, T, a1.nil, a2.nil, ok1, ok2, fun N3 kN3 => ⟨_, rfl, iteF ?_⟩⟩
          obtain ⟨a0, a1, a2, a3⟩ := dat N3 ((kN1.trans kN2).trans kN3.of)
          refine ⟨.ref p, rfl, v1, rfl, v2, rfl, v3, rfl, .ref p, v1, v2, v3, n, ps, d, z1, z2, z3, rfl, a0.nil, hk, T, a1.nil, a2.nil, a3.nil, ok1, ok2, ok3, fun N4 kN4 => ⟨_, rfl, iteF ?_⟩⟩
          have dkN4 := (dkN2.keep kN3).keep kN4
          have kMN := ((kN1.trans kN2).trans kN3.of).trans kN4.of
          obtain ⟨⟨oD', eD'⟩, _, ⟨oR', eR'⟩⟩ := dkN4.at
          refine ⟨_, _, _, _, _, _, rfl, kJ.trans (kM.trans kMN), fun z m => ?_, dkN4.mono (by omega)⟩
          rcases List.mem_cons.mp m with m | m
          · rw [m]; exact ⟨_, eD'⟩
          · rw [List.mem_singleton.mp m]; exact ⟨_, eR'⟩
      · obtain ⟨s2, s4, s5, s6, s7, s8, rfl, kJ, trJ, dkJ⟩ := pp
        exact ⟨_, _, _, _, _, _, _, rfl, dkJ.mono (by omega)⟩
    · exact q _
end
end Rw

namespace Rw
open PySem PySem.Spec PyProof.Rows L2
theorem has_mk {K : PySem.W.Frag} {h : Heap} {mg : Str → Option Value} {x : Str} {st : Stmt} {f : Addr} (X : K.In h) (G : h.Ns mainGlobals mg) {od an : Option Addr} {sl : Array (Option Value)} {oc kV dc pm cd ct : Value}
    (a : PySem.W.nsIn K mainGlobals x = some (some (.ref f))) (l : K.lookup f = some ⟨oc, od, .func (PySem.W.fnOf x x (defArgs st) (defBody st) (defScope st) .none kV dc pm an cd ct), sl⟩) (c : PySem.W.codeIn K cd x = true) (k : PySem.W.keepIn K (.ref f) = true) : Has K mg x st :=
  ⟨f, _, fun_mk (st := st) l c k, PySem.W.mg_of X G a⟩
theorem cst_mk {K : PySem.W.Frag} {h : Heap} {mg : Str → Option Value} {x : Str} {i : Int} {t : Tok} (X : K.In h) (G : h.Ns mainGlobals mg) (a : PySem.W.nsIn K mainGlobals x = some (some (.int i t))) : ∃ t, mg x = some (.int i t) := ⟨t, PySem.W.mg_of X G a⟩
def HasPlan (K : PySem.W.Frag) (mg : Str → Option Value) : Prop := ∃ C f fd, Mk K C f ∧ Fun K "__init__" "Plan.__init__" sInit f fd ∧ mg "Plan" = some (.ref C) ∧ PlanTxt K C
theorem plan_has {K : PySem.W.Frag} {h : Heap} {mg : Str → Option Value} {C f : Addr} (X : K.In h) (G : h.Ns mainGlobals mg) {od an : Option Addr} {sl : Array (Option Value)} {oc kV dc pm cd ct : Value} (aC : PySem.W.nsIn K mainGlobals "Plan" = some (some (.ref C))) (a1 : PySem.W.findIn K (.ref C) "__init__" = some (some (.ref f))) (i1 : PySem.W.isFn K (.ref f) = true)
    (l1 : K.lookup f = some ⟨oc, od, .func (PySem.W.fnOf "__init__" "Plan.__init__" (defArgs sInit) (defBody sInit) (defScope sInit) .none kV dc pm an cd ct), sl⟩) (c1 : PySem.W.codeIn K cd "Plan.__init__" = true) (k1 : PySem.W.keepIn K (.ref f) = true) (pg : PySem.W.plainGet K C Str.empty = true) (hd : PySem.W.hasDictIn K C = true) (po : PySem.W.plainOver K C = true)
    (sa : PySem.W.findIn K (.ref C) "__setattr__" = some (some (.builtin "object.__setattr__"))) (mk : PySem.W.makesIn K C = true) (kc : PySem.W.keepIn K (.ref C) = true) (n1 : PySem.W.findIn K (.ref C) "built" = some none) (n2 : PySem.W.findIn K (.ref C) "pipes" = some none) (n3 : PySem.W.findIn K (.ref C) "doors" = some none) (n4 : PySem.W.findIn K (.ref C) "gaps" = some none) (n5 : PySem.W.findIn K (.ref C) "towards" = some none) : HasPlan K mg :=
  ⟨C, f, _, ⟨mk, a1, i1, kc⟩, fun_mk (st := sInit) l1 c1 k1, PySem.W.mg_of X G aC, ⟨⟨pg, hd, po, sa⟩, n1, n2, n3, n4, n5⟩⟩
theorem end_all {P : Program} {w : World} {K : PySem.W.Frag} {mg : Str → Option Value} {fa : Addr} (B : Blt mg) (hfa : mg "law" = some (.ref fa)) (hL : Has K mg "law" sLaw)
    (hP : HasPlan K mg)
    (h1 : Has K mg "_law_deck" sDeck)
    (h2 : Has K mg "_law_next" sNext)
    (h3 : Has K mg "_law_one" sOne)
    (h4 : Has K mg "_law_edge" sEdge)
    (h5 : Has K mg "_law_spots" sSpots)
    (h6 : Has K mg "_law_length" sLength)
    (h7 : Has K mg "_law_pipe" sPipe)
    (h8 : Has K mg "_law_house" sHouse)
    (h9 : Has K mg "doors_of" sDoors)
    (h10 : Has K mg "spread_from" sSpread)
    (h11 : Has K mg "are_in_one_pipe" sOnePipe)
    (h12 : Has K mg "exits_of" sExits)
    (h13 : Has K mg "shortest" sShort)
    (h14 : Has K mg "gap_of" sGap)
    (h15 : Has K mg "distance_of" sDist)
    (h16 : Has K mg "place_at" sPAt)
    (h17 : Has K mg "places_beside" sPB)
    (h18 : Has K mg "is_on_row" sOnR)
    (h19 : Has K mg "next_to" sNxt)
    (h20 : Has K mg "is_between" sBtw)
    (h21 : Has K mg "room_at" sRAt)
    (h22 : Has K mg "length_of" sLen)
    (h23 : Has K mg "at_along" sAl)
    (h24 : Has K mg "place_along" sPAl)
    (h25 : Has K mg "row_of" sRow)
    (h26 : Has K mg "place_between" sBtn)
    (h27 : Has K mg "place_on" sOn)
    (h28 : Has K mg "is_whole" sWhole)
    (h29 : Has K mg "is_within" sWithin)
    (h30 : Has K mg "is_tuple_of" sTupOf)
    (h31 : Has K mg "is_place" sPlaceP)
    (h32 : Has K mg "_law_same" sSame)
    (h33 : Has K mg "_law_named" sNamed)
    (h34 : Has K mg "_law_place" sPlaceL)
    (h35 : Has K mg "_law_two_right" sTwo)
    (h36 : Has K mg "_law_beyond_right" sBey)
    (h37 : Has K mg "_law_three_right" sThr)
    : ∃ fd : FuncData, (∀ (s : Shared) (u : Value), BindsTo s fd ⟨[u], []⟩ [("_law_script", u)]) ∧ ∀ base : Heap, K.In base → base.Ns mainGlobals mg → AtTop P w K mg base fa fd "_law_script" (spLaw K) := by
  obtain ⟨f, fd, F, g⟩ := hL
  have e := hfa.symm.trans g
  cases e
  obtain ⟨CP, fI, fdI, MI, FI, gI, XP⟩ := hP
  have all : ∀ base : Heap, (∀ (s : Shared) (u : Value), BindsTo s fd ⟨[u], []⟩ [("_law_script", u)]) ∧ AtTop P w K mg base fa fd "_law_script" (spLaw K) := fun base => by
    have cD : Can P w K mg base _ _ _ _ := ok_deck h1 B
    have cN : Can P w K mg base _ _ _ _ := ok_next h2 B
    have cO := ok_one h3 B cN
    have cE := ok_edge h4 B cN cO
    have cS := ok_spots h5 B cE
    have cL := ok_length h6 cN cO
    have cPi := ok_pipe h7 B cN cE cS cL
    have cH := ok_house h8 B cN cPi
    have cDo : Can P w K mg base _ _ _ _ := ok_doors h9 B
    have cSp : Can P w K mg base _ _ _ _ := ok_spread h10 B
    have cPl := (⟨fI, fdI, MI, ok_init FI B XP cDo cSp, gI, FI.binds fun _ _ _ _ _ _ us hl => match us, hl with | [_, _], _ => rfl⟩ : CanMk P w K mg base "Plan" CP ["self", "house"] 2 (spInit CP))
    have cOP : Can P w K mg base _ _ _ _ := ok_onePipe h11 B
    have cEx : Can P w K mg base _ _ _ _ := ok_exits h12 B XP
    have cSh := ok_short h13 B XP cEx
    have cGa := ok_gap h14 B cOP cSh
    have cQ := ok_dist h15 cPl cGa
    have cPA : Can P w K mg base _ _ _ _ := ok_pAt h16 XP
    have cPB := ok_pB h17 B XP cPA
    have cOR := ok_onR h18 cGa
    have cNx := ok_nxt h19 cPl cPB
    have cIB := ok_btw h20 cPl cOR
    have cRA : Can P w K mg base _ _ _ _ := ok_rAt h21 XP
    have cLe : Can P w K mg base _ _ _ _ := ok_len h22 B
    have cAl : Can P w K mg base _ _ _ _ := ok_al h23
    have cPL := ok_pAl h24 cLe cAl cPA
    have cRo := ok_row h25 B XP cOP cSh cRA
    have cBt := ok_btn h26 cPL cRo
    have cOn := ok_on h27 cPl cBt
    have cWh : Can P w K mg base _ _ _ _ := ok_whole h28 B
    have cWi := ok_within h29 cWh
    have cTu : Can P w K mg base _ _ _ _ := ok_tupOf h30 B
    have cIP := ok_placeP h31 B cTu cWi
    have cSa : Can P w K mg base _ _ _ _ := ok_sameD h32 B 2
    have cNm : Can P w K mg base _ _ _ _ := ok_named h33 B
    have cLP := ok_placeL h34 B cN cE cNm
    have cTw := ok_two h35 B cQ cOn cIB cNx cSa cIP cE
    have cBy := ok_bey h36 cNx cQ cIB cSa
    have cTh := ok_thr h37 B cQ cOn cIB cSa
    exact ok_law F B cD cN cH cLP cTw cBy cTh
  exact ⟨fd, (all Inhabited.default).1, fun base _ _ => (all base).2⟩
end Rw
open PySem PySem.W PyProof.Rows
set_option maxHeartbeats 0 in
theorem PySem.Challenge.cw_ropewarren_k06_whole_far_distances_holds : PySem.Challenge.rw_ropewarren_k06_whole_far_distances.Holds := by
  w_on; o_law; k_head; (case hw => w_witness2)
  k_fill
  refine Rw.walk_top (l := PySem.Challenge.rw_ropewarren_k06_whole_far_distances) (n := 63) (x := "_law_script") (sp := fun w => Rw.spLaw _) rfl (by decide) rfl (fun w h Y => PySem.W.kIn_of Y) ?F (fun _ _ a ns hl _ hS => ⟨a, ns, rfl, hS, hl, fun _ => rfl⟩)
  case F =>
    intro w mg fa h KX G hmg0
    have hmg : mg "law" = some (.ref fa) := hmg0
    clear hmg0
    refine' Rw.end_all (mg := mg) ?B hmg ?hL   ?hP ?h1 ?h2 ?h3 ?h4 ?h5 ?h6 ?h7 ?h8 ?h9 ?h10 ?h11 ?h12 ?h13 ?h14 ?h15 ?h16 ?h17 ?h18 ?h19 ?h20 ?h21 ?h22 ?h23 ?h24 ?h25 ?h26 ?h27 ?h28 ?h29 ?h30 ?h31 ?h32 ?h33 ?h34 ?h35 ?h36 ?h37
    case B =>
      refine' ⟨PySem.W.mg_none_of KX G ?b1, PySem.W.mg_none_of KX G ?b2, PySem.W.mg_none_of KX G ?b3, PySem.W.mg_none_of KX G ?b4, PySem.W.mg_none_of KX G ?b5, PySem.W.mg_none_of KX G ?b6, PySem.W.mg_none_of KX G ?b7, PySem.W.mg_none_of KX G ?b8, PySem.W.mg_none_of KX G ?b9, PySem.W.mg_none_of KX G ?b10, PySem.W.mg_none_of KX G ?b11, PySem.W.mg_none_of KX G ?b12, PySem.W.mg_none_of KX G ?b13, PySem.W.mg_none_of KX G ?b14, PySem.W.mg_none_of KX G ?b15, PySem.W.mg_none_of KX G ?b16, PySem.W.mg_none_of KX G ?b17, PySem.W.mg_none_of KX G ?b18, PySem.W.mg_none_of KX G ?b19⟩
      (case b1 => k_is)
      (case b2 => k_is)
      (case b3 => k_is)
      (case b4 => k_is)
      (case b5 => k_is)
      (case b6 => k_is)
      (case b7 => k_is)
      (case b8 => k_is)
      (case b9 => k_is)
      (case b10 => k_is)
      (case b11 => k_is)
      (case b12 => k_is)
      (case b13 => k_is)
      (case b14 => k_is)
      (case b15 => k_is)
      (case b16 => k_is)
      (case b17 => k_is)
      (case b18 => k_is)
      (case b19 => k_is)
    case hP =>
      refine' Rw.plan_has KX G ?aC ?a1 ?i1 ?l1 ?c1 ?k1 ?pg ?hd ?po ?sa ?mk ?kc ?n1 ?n2 ?n3 ?n4 ?n5
      (case aC => k_is)
      (case a1 => k_is)
      (case i1 => k_is)
      (case l1 => k_is)
      (case c1 => k_is)
      (case k1 => k_is)
      (case pg => k_is)
      (case hd => k_is)
      (case po => k_is)
      (case sa => k_is)
      (case mk => k_is)
      (case kc => k_is)
      (case n1 => k_is)
      (case n2 => k_is)
      (case n3 => k_is)
      (case n4 => k_is)
      (case n5 => k_is)
    case hL =>
      refine' Rw.has_mk KX G ?a ?l ?c ?k
      (case a => k_is); (case l => k_is); (case c => k_is); (case k => k_is)
    case h1 =>
      refine' Rw.has_mk KX G ?a ?l ?c ?k
      (case a => k_is); (case l => k_is); (case c => k_is); (case k => k_is)
    case h2 =>
      refine' Rw.has_mk KX G ?a ?l ?c ?k
      (case a => k_is); (case l => k_is); (case c => k_is); (case k => k_is)
    case h3 =>
      refine' Rw.has_mk KX G ?a ?l ?c ?k
      (case a => k_is); (case l => k_is); (case c => k_is); (case k => k_is)
    case h4 =>
      refine' Rw.has_mk KX G ?a ?l ?c ?k
      (case a => k_is); (case l => k_is); (case c => k_is); (case k => k_is)
    case h5 =>
      refine' Rw.has_mk KX G ?a ?l ?c ?k
      (case a => k_is); (case l => k_is); (case c => k_is); (case k => k_is)
    case h6 =>
      refine' Rw.has_mk KX G ?a ?l ?c ?k
      (case a => k_is); (case l => k_is); (case c => k_is); (case k => k_is)
    case h7 =>
      refine' Rw.has_mk KX G ?a ?l ?c ?k
      (case a => k_is); (case l => k_is); (case c => k_is); (case k => k_is)
    case h8 =>
      refine' Rw.has_mk KX G ?a ?l ?c ?k
      (case a => k_is); (case l => k_is); (case c => k_is); (case k => k_is)
    case h9 =>
      refine' Rw.has_mk KX G ?a ?l ?c ?k
      (case a => k_is); (case l => k_is); (case c => k_is); (case k => k_is)
    case h10 =>
      refine' Rw.has_mk KX G ?a ?l ?c ?k
      (case a => k_is); (case l => k_is); (case c => k_is); (case k => k_is)
    case h11 =>
      refine' Rw.has_mk KX G ?a ?l ?c ?k
      (case a => k_is); (case l => k_is); (case c => k_is); (case k => k_is)
    case h12 =>
      refine' Rw.has_mk KX G ?a ?l ?c ?k
      (case a => k_is); (case l => k_is); (case c => k_is); (case k => k_is)
    case h13 =>
      refine' Rw.has_mk KX G ?a ?l ?c ?k
      (case a => k_is); (case l => k_is); (case c => k_is); (case k => k_is)
    case h14 =>
      refine' Rw.has_mk KX G ?a ?l ?c ?k
      (case a => k_is); (case l => k_is); (case c => k_is); (case k => k_is)
    case h15 =>
      refine' Rw.has_mk KX G ?a ?l ?c ?k
      (case a => k_is); (case l => k_is); (case c => k_is); (case k => k_is)
    case h16 =>
      refine' Rw.has_mk KX G ?a ?l ?c ?k
      (case a => k_is); (case l => k_is); (case c => k_is); (case k => k_is)
    case h17 =>
      refine' Rw.has_mk KX G ?a ?l ?c ?k
      (case a => k_is); (case l => k_is); (case c => k_is); (case k => k_is)
    case h18 =>
      refine' Rw.has_mk KX G ?a ?l ?c ?k
      (case a => k_is); (case l => k_is); (case c => k_is); (case k => k_is)
    case h19 =>
      refine' Rw.has_mk KX G ?a ?l ?c ?k
      (case a => k_is); (case l => k_is); (case c => k_is); (case k => k_is)
    case h20 =>
      refine' Rw.has_mk KX G ?a ?l ?c ?k
      (case a => k_is); (case l => k_is); (case c => k_is); (case k => k_is)
    case h21 =>
      refine' Rw.has_mk KX G ?a ?l ?c ?k
      (case a => k_is); (case l => k_is); (case c => k_is); (case k => k_is)
    case h22 =>
      refine' Rw.has_mk KX G ?a ?l ?c ?k
      (case a => k_is); (case l => k_is); (case c => k_is); (case k => k_is)
    case h23 =>
      refine' Rw.has_mk KX G ?a ?l ?c ?k
      (case a => k_is); (case l => k_is); (case c => k_is); (case k => k_is)
    case h24 =>
      refine' Rw.has_mk KX G ?a ?l ?c ?k
      (case a => k_is); (case l => k_is); (case c => k_is); (case k => k_is)
    case h25 =>
      refine' Rw.has_mk KX G ?a ?l ?c ?k
      (case a => k_is); (case l => k_is); (case c => k_is); (case k => k_is)
    case h26 =>
      refine' Rw.has_mk KX G ?a ?l ?c ?k
      (case a => k_is); (case l => k_is); (case c => k_is); (case k => k_is)
    case h27 =>
      refine' Rw.has_mk KX G ?a ?l ?c ?k
      (case a => k_is); (case l => k_is); (case c => k_is); (case k => k_is)
    case h28 =>
      refine' Rw.has_mk KX G ?a ?l ?c ?k
      (case a => k_is); (case l => k_is); (case c => k_is); (case k => k_is)
    case h29 =>
      refine' Rw.has_mk KX G ?a ?l ?c ?k
      (case a => k_is); (case l => k_is); (case c => k_is); (case k => k_is)
    case h30 =>
      refine' Rw.has_mk KX G ?a ?l ?c ?k
      (case a => k_is); (case l => k_is); (case c => k_is); (case k => k_is)
    case h31 =>
      refine' Rw.has_mk KX G ?a ?l ?c ?k
      (case a => k_is); (case l => k_is); (case c => k_is); (case k => k_is)
    case h32 =>
      refine' Rw.has_mk KX G ?a ?l ?c ?k
      (case a => k_is); (case l => k_is); (case c => k_is); (case k => k_is)
    case h33 =>
      refine' Rw.has_mk KX G ?a ?l ?c ?k
      (case a => k_is); (case l => k_is); (case c => k_is); (case k => k_is)
    case h34 =>
      refine' Rw.has_mk KX G ?a ?l ?c ?k
      (case a => k_is); (case l => k_is); (case c => k_is); (case k => k_is)
    case h35 =>
      refine' Rw.has_mk KX G ?a ?l ?c ?k
      (case a => k_is); (case l => k_is); (case c => k_is); (case k => k_is)
    case h36 =>
      refine' Rw.has_mk KX G ?a ?l ?c ?k
      (case a => k_is); (case l => k_is); (case c => k_is); (case k => k_is)
    case h37 =>
      refine' Rw.has_mk KX G ?a ?l ?c ?k
      (case a => k_is); (case l => k_is); (case c => k_is); (case k => k_is)
