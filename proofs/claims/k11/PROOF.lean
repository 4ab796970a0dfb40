import PyProof.Rows.All
import Wide.All
import OpenK.AllK
import Wide.FinOn
import PyProof.ReprRoads
import HandS.ForMost
import HandS.Flow
import HandS.Wide
import HandS.IsInst
import HandS.Strs
import HandS.SetFor
import HandS.TupAny
import HandS.Rev
import HandS.NoneIn
import HandS.Style
import HandS.SortInts
import HandS.More
import KE.DataMinMax
import KE.GoesMore
import KE.DatumOrd
import KE.KDictDisplayH
import KE.SortData
import HandS.Conv
import HandS.Walk
import HandS.DictSub
import HandS.Text
import HandS.FStr
import HandS.Deep
import HandS.RaiseMore
import HandS.ForExc
import HandS.ExcInit
import HandS.ExcField
import HandS.TryMany
import KE.KExcIs
import HandS.TupSets
import PySem.Challenge.RW_ropewarren_k11_ropes_and_stands
set_option Elab.async false
set_option linter.all false
set_option maxRecDepth 100000
set_option maxHeartbeats 4000000
namespace Rw
open PySem PySem.Spec PyProof.Rows L2
/-! heaps of which all but a few addresses stay -/
def Keep (av : List Addr) (H H' : Hp) : Prop := ∀ b o, H b = some o → b ∉ av → H' b = some o
theorem Keep.refl (av : List Addr) (H : Hp) : Keep av H H := fun _ _ e _ => e
theorem Keep.trans {av : List Addr} {H H1 H2 : Hp} (x : Keep av H H1) (y : Keep av H1 H2) : Keep av H H2 := fun b o e n => y b o (x b o e n) n
theorem Keep.new {av : List Addr} {H : Hp} {p : Addr} {o : HO} (n : H p = none) : Keep av H (upd H p o) := fun b z e _ => by
  rw [upd_ne (ne_of_none e n)]; exact e
theorem Keep.put {av : List Addr} {H : Hp} {p : Addr} {o : HO} (n : p ∈ av) : Keep av H (upd H p o) := fun b z e nb => by
  rw [upd_ne (show b ≠ p from fun q => nb (by rw [q]; exact n))]; exact e
theorem Keep.mono {av av' : List Addr} {H H' : Hp} (x : Keep av H H') (s : ∀ a ∈ av, a ∈ av') : Keep av' H H' := fun b o e n => x b o e fun q => n (s b q)
/-! a fresh address may be left out of what is left out -/
theorem Keep.drop {av : List Addr} {H H' : Hp} {p : Addr} (n : H p = none) (x : Keep (p :: av) H H') : Keep av H H' := fun b o e nb => x b o e fun q => by
  rcases List.mem_cons.mp q with q | q
  · exact ne_of_none e n q
  · exact nb q
/-! data: what stands at a value, without the addresses av -/
mutual
inductive Dt (av : List Addr) (H : Hp) : V → PyData → Prop
  | non : Dt av H .non .none
  | bl (b : Bool) : Dt av H (.bl b) (.bool b)
  | int (i : Int) : Dt av H (.int i) (.int i)
  | str (x : Str) : Dt av H (.str x) (.str x)
  | lst {a : Addr} {xs : List V} {ds : List PyData} : a ∉ av → H a = some (.lst xs) → Dts av H xs ds → Dt av H (.ref a) (.list ds)
  | tup {a : Addr} {xs : List V} {ds : List PyData} : a ∉ av → H a = some (.tup xs) → Dts av H xs ds → Dt av H (.ref a) (.tuple ds)
  | dct {a : Addr} : a ∉ av → H a = some (.dK []) → Dt av H (.ref a) (.dict [])
inductive Dts (av : List Addr) (H : Hp) : List V → List PyData → Prop
  | nil : Dts av H [] []
  | cons {v : V} {vs : List V} {d : PyData} {ds : List PyData} : Dt av H v d → Dts av H vs ds → Dts av H (v :: vs) (d :: ds)
end
mutual
theorem Dt.map {av av' : List Addr} {H H' : Hp} (f : ∀ b o, H b = some o → b ∉ av → H' b = some o ∧ b ∉ av') : ∀ (d : PyData) (v : V), Dt av H v d → Dt av' H' v d
  | _, _, .non => .non
  | _, _, .bl b => .bl b
  | _, _, .int i => .int i
  | _, _, .str x => .str x
  | .list ds, _, .lst n e s => .lst (f _ _ e n).2 (f _ _ e n).1 (Dts.map f ds _ s)
  | .tuple ds, _, .tup n e s => .tup (f _ _ e n).2 (f _ _ e n).1 (Dts.map f ds _ s)
  | _, _, .dct n e => .dct (f _ _ e n).2 (f _ _ e n).1
theorem Dts.map {av av' : List Addr} {H H' : Hp} (f : ∀ b o, H b = some o → b ∉ av → H' b = some o ∧ b ∉ av') : ∀ (ds : List PyData) (vs : List V), Dts av H vs ds → Dts av' H' vs ds
  | _, _, .nil => .nil
  | d :: ds, _, .cons h t => .cons (Dt.map f d _ h) (Dts.map f ds _ t)
end
theorem Dt.keep {av : List Addr} {H H' : Hp} {v : V} {d : PyData} (x : Dt av H v d) (k : Keep av H H') : Dt av H' v d := Dt.map (fun b o e n => ⟨k b o e n, n⟩) d v x
theorem Dts.keep {av : List Addr} {H H' : Hp} {v : List V} {d : List PyData} (x : Dts av H v d) (k : Keep av H H') : Dts av H' v d := Dts.map (fun b o e n => ⟨k b o e n, n⟩) d v x
theorem Dt.more {av : List Addr} {H : Hp} {v : V} {d : PyData} {p : Addr} (x : Dt av H v d) (n : H p = none) : Dt (p :: av) H v d :=
  Dt.map (fun b o e nb => ⟨e, fun q => (List.mem_cons.mp q).elim (ne_of_none e n) nb⟩) d v x
theorem Dts.more {av : List Addr} {H : Hp} {v : List V} {d : List PyData} {p : Addr} (x : Dts av H v d) (n : H p = none) : Dts (p :: av) H v d :=
  Dts.map (fun b o e nb => ⟨e, fun q => (List.mem_cons.mp q).elim (ne_of_none e n) nb⟩) d v x
theorem Dt.less {av av' : List Addr} {H : Hp} {v : V} {d : PyData} (x : Dt av H v d) (s : ∀ a ∈ av', a ∈ av) : Dt av' H v d :=
  Dt.map (fun b o e nb => ⟨e, fun q => nb (s b q)⟩) d v x
theorem Dts.less {av av' : List Addr} {H : Hp} {v : List V} {d : List PyData} (x : Dts av H v d) (s : ∀ a ∈ av', a ∈ av) : Dts av' H v d :=
  Dts.map (fun b o e nb => ⟨e, fun q => nb (s b q)⟩) d v x
theorem Dts.len {av : List Addr} {H : Hp} : ∀ {vs : List V} {ds : List PyData}, Dts av H vs ds → vs.length = ds.length
  | _, _, .nil => rfl
  | _, _, .cons _ t => by rw [List.length_cons, List.length_cons, t.len]
theorem Dts.get {av : List Addr} {H : Hp} : ∀ {vs : List V} {ds : List PyData} (i : Nat) {d : PyData}, Dts av H vs ds → ds[i]? = some d → ∃ v, vs[i]? = some v ∧ Dt av H v d
  | _, _, _, _, .nil, e => by simp at e
  | _, _, 0, _, .cons h _, e => by simp at e; subst e; exact ⟨_, rfl, h⟩
  | _, _, i + 1, d, .cons _ t, e => by
    obtain ⟨u, h1, h2⟩ := Dts.get (i := i) (d := d) t (by simpa using e)
    exact ⟨u, by simpa using h1, h2⟩
theorem Dts.getv {av : List Addr} {H : Hp} : ∀ {vs : List V} {ds : List PyData} (i : Nat) {v : V}, Dts av H vs ds → vs[i]? = some v → ∃ d, ds[i]? = some d ∧ Dt av H v d
  | _, _, _, _, .nil, e => by simp at e
  | _, _, 0, _, .cons h _, e => by simp at e; subst e; exact ⟨_, rfl, h⟩
  | _, _, i + 1, d, .cons _ t, e => by
    obtain ⟨u, h1, h2⟩ := Dts.getv (i := i) (v := d) t (by simpa using e)
    exact ⟨u, by simpa using h1, h2⟩
theorem Dts.app {av : List Addr} {H : Hp} : ∀ {vs us : List V} {ds es : List PyData}, Dts av H vs ds → Dts av H us es → Dts av H (vs ++ us) (ds ++ es)
  | _, _, _, _, .nil, y => y
  | _, _, _, _, .cons h t, y => .cons h (Dts.app t y)
theorem Dts.mem {av : List Addr} {H : Hp} : ∀ {vs : List V} {ds : List PyData} {v : V}, Dts av H vs ds → v ∈ vs → ∃ d ∈ ds, Dt av H v d
  | _, _, _, .nil, e => by simp at e
  | _, _, v, .cons (d := d) h t, e => by
    rcases List.mem_cons.mp e with e | e
    · subst e; exact ⟨d, List.mem_cons_self, h⟩
    · obtain ⟨d', m, x⟩ := Dts.mem t e
      exact ⟨d', List.mem_cons_of_mem _ m, x⟩
theorem Dts.take {av : List Addr} {H : Hp} : ∀ {vs : List V} {ds : List PyData} (n : Nat), Dts av H vs ds → Dts av H (vs.take n) (ds.take n)
  | _, _, 0, _ => .nil
  | _, _, _ + 1, .nil => .nil
  | _, _, n + 1, .cons r t => .cons r (Dts.take n t)
theorem Dts.drop {av : List Addr} {H : Hp} : ∀ {vs : List V} {ds : List PyData} (n : Nat), Dts av H vs ds → Dts av H (vs.drop n) (ds.drop n)
  | _, _, 0, r => r
  | _, _, _ + 1, .nil => .nil
  | _, _, n + 1, .cons _ t => Dts.drop n t
theorem Dts.rev {av : List Addr} {H : Hp} : ∀ {vs : List V} {ds : List PyData}, Dts av H vs ds → Dts av H vs.reverse ds.reverse
  | _, _, .nil => .nil
  | _, _, .cons r t => by rw [List.reverse_cons, List.reverse_cons]; exact Dts.app t.rev (.cons r .nil)
theorem Dts.ints {av : List Addr} {H : Hp} : ∀ ns : List Int, Dts av H (ns.map V.int) (ns.map PyData.int)
  | [] => .nil
  | n :: ns => .cons (.int n) (Dts.ints ns)
end Rw

namespace Rw
open PySem PySem.Spec PyProof.Rows L2
/-! ### set(xs) of a list of hin, its order left open -/
abbrev set0 (w : World) : Obj := { cls := .type "set", dict := none, data := .set #[] 0 (.fresh 0 0 (!w.params.followText "set-order")) }
section
variable {P : Program} {w : World} {A : Around} {E : Value → Shared → Prop} {s : Shared}
theorem set_of_list {l : Addr} {its : Array Value} (ns : List Int) {Q : Value → Shared → Prop} (calm : A.handled = none) (hl : s.heap.IsList l its) (hin : IntsAre its.toList ns) (few : ns.length + 1 < scanBound)
    (h : ∀ (h' : Heap) (tk c : Nat), SetR w h' s.heap.objs.size (fun j => decide (j ∈ ns)) c → c ≤ ns.length → (∀ b o, s.heap.get? b = some o → h'.get? b = some o) → Q (.ref s.heap.objs.size) { s with heap := h', toks := tk }) :
    wpAny (model P w) A (call (.type "set") [.ref l]) Q E s := by
  have isz : its.size = ns.length := (Array.length_toList (xs := its)).symm.trans (IntsAre.length hin)
  obtain ⟨c, tl, m1⟩ := F.called_set.mro
  have m2 := F.called_set.made
  have m3 := F.called_set.sub
  refine wpAny_call (codeAny_of_tree (show wpAny _ _ (callAny (.type "set") _) _ _ _ from ?_))
  refine wpAny_pure ⟨Code.quiet_builtin _ (by decide +kernel), codeAny_builtin (F.entry_type_call) ?_⟩
  rw [Around.under_plain (weight_type_call_type "set" [Value.ref l] []) rfl]
  have m4 := F.called_set.notType
  have m5 := F.called_set.canCreate
  have m6 := F.typeCall_set_1 (Value.ref l)
  repeat any_goals (first | assumption | wp_step)
  refine codeAny_mono (code_set_led1 (Value.ref l) (E := E) (Q₁ := fun ob s1 => ob = .ref s.heap.objs.size ∧ s1 = { s with heap := s.heap.push (set0 w) }) ⟨rfl, rfl⟩) fun r s1 hr => ?_
  cases r with
  | error e => exact hr
  | ok fl =>
    cases fl with
    | ret ob =>
      obtain ⟨rfl, rfl⟩ := hr
      have at0 : (s.heap.push (set0 w)).get? s.heap.objs.size = some (set0 w) := Heap.get?_push_size _ rfl
      have ty : Shared.TypeIs { s with heap := s.heap.push (set0 w) } (.ref s.heap.objs.size) "set" := ⟨_, at0, rfl⟩
      have m7 := F.called_set.init.lookup
      have m8 := F.called_set.init.bind (Value.ref s.heap.objs.size)
      repeat any_goals (first | assumption | wp_step)
      refine codeAny_mono (codeAny_call_builtin (R := wants (fun r s2 => r = .none ∧ ∃ h' tk c, s2 = { s with heap := h', toks := tk } ∧ SetR w h' s.heap.objs.size (fun j => decide (j ∈ ns)) c ∧ c ≤ ns.length ∧ (∀ b o, s.heap.get? b = some o → h'.get? b = some o)) E)
        F.called_set.init.plain F.entry_set_init (check_set_init_1 ty ?_)) fun r2 s2 hr2 => ?_
      · obtain ⟨⟨oc, od, odata, osl⟩, e0, e1, nl, e2⟩ := hl
        simp only at e1 e2
        subst e1; subst e2
        have e3 : (s.heap.push (set0 w)).get? l = some { cls := .type "list", dict := od, data := .seq its nl, slots := osl } := Heap.get?_push_of_some _ e0
        have n1 := F.sub_list_set
        have n2 := F.sub_list_frozenset
        have n3 : (Value.type "list" == Value.type "dict") = false := by decide
        have hl1 : (s.heap.push (set0 w)).IsList l its := ⟨_, e3, rfl, nl, rfl⟩
        unfold Builtin.«set.__init__» noKeywords Builtin.Frozenset.updateFrom
        generalize gi : pyIter = PI
        wp_walk
        subst gi
        refine wpAny_pyIter_list hl1 (wpAny_bind (wpAny_runValue ?_))
        have lt0 : l < s.heap.objs.size := Heap.lt_size e0
        have calm3 : A.in1.in1.in1.handled = none := by simp [calm]
        have ne1 : l ≠ (s.heap.push (set0 w)).objs.size := by
          rw [Heap.size_push]; exact Nat.ne_of_lt (Nat.lt_succ_of_lt lt0)
        have ne2 : s.heap.objs.size ∉ [(s.heap.push (set0 w)).objs.size, l] := by
          rw [Heap.size_push]
          intro q
          simp only [List.mem_cons, List.not_mem_nil, or_false] at q
          exact q.elim (Nat.ne_of_lt (Nat.lt_succ_self _)) (Nat.ne_of_gt lt0)
        have val : ∀ (i : Nat) (v : Value), its[i]? = some v → ∃ k t, ns[i]? = some k ∧ v = .int k t := fun i v hv => by
          have hi : i < ns.length := by rw [← isz]; exact (Array.getElem?_eq_some_iff.mp hv).1
          obtain ⟨t, e⟩ := PyProof.Rows.IntsAre.int_at hin i v (by rw [Array.getElem?_toList]; exact hv)
          refine ⟨ns[i], t, List.getElem?_eq_getElem hi, e.trans ?_⟩
          rw [List.getD_eq_getElem?_getD, List.getElem?_eq_getElem hi]; rfl
        refine set_update_ints ((Walks.list calm3 _ l ne1 its).toS) s.heap.objs.size ne2 ns isz few val (its.size - 0) 0 _ (by omega) (Nat.zero_le _) ⟨⟨_, Heap.get?_push_size _ rfl, rfl, rfl⟩, (hl1.push _)⟩ ?start ?fin
        case start => exact ⟨0, Nat.le_refl 0, setR_new_at (Heap.get?_push_of_some _ at0)⟩
        case fin =>
          intro s3 c3 mv le3 R3
          obtain ⟨h3, g3, d3, t3, o3⟩ := s3
          obtain rfl : g3 = s.gens := mv.gens
          obtain rfl : d3 = s.drawn := mv.drawn
          obtain rfl : o3 = s.os := mv.os
          show wpAny _ _ _ _ _ _
          refine wpAny_pure (show wpAny _ _ (ret Value.none) _ _ _ from ?_)
          rw [isz] at le3
          refine wpAny_pure ⟨rfl, h3, t3, c3, rfl, R3, le3, fun b o e => ?_⟩
          have lb : b < s.heap.objs.size := Heap.lt_size e
          refine mv.heap b o (fun q => ?_) (Heap.get?_push_of_some _ (Heap.get?_push_of_some _ e))
          rw [Heap.size_push] at q
          simp only [List.mem_cons, List.not_mem_nil, or_false] at q
          exact q.elim (Nat.ne_of_lt lb) (Nat.ne_of_lt (Nat.lt_succ_of_lt lb))
      · cases r2 with
        | error e => exact hr2
        | ok f2 =>
          cases f2 with
          | ret r =>
            obtain ⟨rfl, h', tk, c3, rfl, R3, le3, k3⟩ := hr2
            repeat any_goals (first | assumption | wp_step)
            exact h _ _ _ R3 le3 k3
          | _ => exact hr2.elim
    | _ => exact hr.elim
end
section
variable {X : Cx}
def rSetL (K : PySem.W.Frag) (w : World) : List V → Hp → VK → Prop := fun xs H Q => ∃ (p : Addr) (ns : List Int), xs = [.ref p] ∧ SqL K H p (ns.map V.int) ∧ ns.length ≤ 1000 ∧
  ∀ (a : Addr) (c : Nat), H a = none → c ≤ ns.length → Q (.ref a) (upd H a (SetO w a (fun j => decide (j ∈ ns)) c))
theorem cr_setL (hc : X.calm = true) : CallR X (.type "set") (rSetL X.K X.w) := by
  intro pins s σ H xs us Q I r h
  obtain ⟨p, ns, rfl, hS, few, q⟩ := h
  rw [Vals.ref1 r]
  obtain ⟨its, rv, pl, hz⟩ := I.list hS
  refine set_of_list ns (I.ok.hd hc) pl.isList (by simpa using intsAre_of rv) (by unfold scanBound; omega) fun h' tk c R le k => ?_
  exact ⟨.ref _, _, I.laid (t' := tk) k (Nat.le_refl _) (setO_new R), rfl, q _ c (I.hok.fresh (Nat.le_refl _)) le⟩
end
end Rw

namespace Rw
open PySem PySem.Spec PyProof.Rows L2
/-! ### the law's own def, called where nothing is being shown (callerA), over a base that is known -/
def AtTop (P : Program) (w : World) (K : PySem.W.Frag) (mg : Str → Option Value) (base : Heap) (f : Addr) (fd : FuncData) (x : Str) (sp : Sp) : Prop :=
  ∀ (s : Shared) (H : Hp) (u : Value) (v : V) (Q : VK), Env0 P w K mg base callerA [] s H → BindsTo s fd ⟨[u], []⟩ [(x, u)] → RelV v u → sp [v] H Q E0 →
    codeAny (model P w) callerA (.call (.ref f) ⟨[u], []⟩) (CR CX0 [] P w H s Q E0) s
section
variable {P : Program} {w : World} {K : PySem.W.Frag} {mg : Str → Option Value} {base : Heap}
theorem atTop_of {f : Addr} {x q y : Str} {st : Stmt} {fd : FuncData} {N : List Str} {k : Nat} {sp : Sp} (F : Fun K x q st f fd) (S : FnScope N [y] (defScope st)) (room : Room (k + 1) callerA)
    (body : ∀ (cdv : Value) (s : Shared) (H : Hp) (v : V) (Q : VK), Room k (callerA.deeper (envOfC q (defScope st) s.heap.objs.size f cdv)) → sp [v] H Q E0 →
      ∃ t, PSs (cxOf CX0 P w K mg base N q (defScope st) f cdv callerA [] s H E0) (defBody st) t ∧ t { nx := fun _ H' => Q .non H', rt := Q } (start N [v]) H) : AtTop P w K mg base f fd y sp := by
  obtain ⟨oc, od, kV, doc, pm, an, cdv, ct, osl, rfl, lk, hcd⟩ := F.ex
  intro s H u v Q e0 hb r hsp
  have KX : K.In s.heap := e0.mod.kin.keeps (fun b o e => (e0.bs b o e).1)
  have lim : s.heap.NoLimit := e0.mod.nolimit.keeps (fun b o e => (e0.bs b o e).1)
  have kinds : ∀ z ∈ [y].zip [u], (defScope st).names.lookup z.1 = some .local ∨ ((defScope st).names.lookup z.1 = some .cell ∧ ((cellsFrom (s.heap.objs.size + 1) (defScope st).names []).lookup z.1).isSome = true) := fun ⟨n, v⟩ hz => by
    rcases S.par n (List.of_mem_zip hz).1 with g | g
    · exact Or.inl g
    · exact Or.inr ⟨g, PySem.W.cellsFrom_some _ _ _ (.inl g)⟩
  refine codeAny_call_function room.depth (KX _ _ lk) rfl S.co S.gen rfl (PySem.W.codeRec_of KX hcd) (hb _ _ _ _ (wpAny_newFunctionEnv_cells S.kind kinds fun env he s1 ic => ?_))
  subst he
  refine ⟨lim.keeps ic.toInCall.keep, codeAny_func ?_⟩
  obtain ⟨t, ht, hq⟩ := body cdv s H v Q (room.deeper _) hsp
  have I : Inv (cxOf CX0 P w K mg base N q (defScope st) f cdv callerA [] s H E0) [] (start N [v]) H s1 := inv_start S room.hd e0 rfl (.cons r .nil) ic
  refine wpAny_mono (ht.run [] s1 (start N [v]) H _ I hq) (fun fl s2 hs => ?_) fun e s2 hs => hs
  cases fl with
  | ret u2 =>
    obtain ⟨v2, σ2, H2, J, rv, z⟩ := hs
    exact ⟨v2, H2, J.os, J.bare, J.base, J.hok, rv, z⟩
  | next =>
    obtain ⟨σ2, H2, J, z⟩ := hs
    exact ⟨V.non, H2, J.os, J.bare, J.base, J.hok, rfl, z⟩
  | brk =>
    obtain ⟨_, _, _, z⟩ := hs
    exact False.elim z
  | cont =>
    obtain ⟨_, _, _, z⟩ := hs
    exact False.elim z
theorem law_at {mb : Str → Option Value} {fa a : Addr} {fd : FuncData} {x : Str} {sp : Sp} {s1 : Shared} {vs : List Value} {ns : List Int}
    (KX : K.In s1.heap) (hns : s1.heap.Ns mainGlobals mg) (hb : s1.heap.Ns builtinsNs mb) (hbb : ∀ x : Str, x ≠ "__name__" → mb x = bootBuiltins x) (lim : s1.heap.NoLimit) (hg : s1.gens = #[])
    (ha : s1.heap.get? a = some { cls := .type "list", data := .seq vs.toArray }) (hi : IntsAre vs ns) (hl : ns.length ≤ sizeLine)
    (F : ∀ base : Heap, K.In base → base.Ns mainGlobals mg → AtTop P w K mg base fa fd x sp) (hbind : ∀ (s : Shared) (u : Value), BindsTo s fd ⟨[u], []⟩ [(x, u)])
    (hsp : ∀ H : Hp, Only H → SqL K H a (ns.map V.int) → sp [.ref a] H (fun v _ => v = .bl true) E0) :
    codeAny (model P w) callerA (.call (.ref fa) ⟨[.ref a], []⟩) (fun r s' => r = .ok (.ret (.bool true)) ∧ OldK s1.heap s'.heap ∧ s'.os = s1.os ∧ AllBare s'.gens) s1 := by
  have core : ∀ H : Hp, Only H → SqL K H a (ns.map V.int) → HOk P w H s1.heap → (∀ b, H b ≠ none → b = a) → (H a ≠ none → K.lookup a = none) →
      codeAny (model P w) callerA (.call (.ref fa) ⟨[.ref a], []⟩) (fun r s' => r = .ok (.ret (.bool true)) ∧ OldK s1.heap s'.heap ∧ s'.os = s1.os ∧ AllBare s'.gens) s1 := by
    intro H hO hS hok hA hK
    have hid : ∀ {b : Addr} {o : Obj}, s1.heap.get? b = some o → H b = none → (hidT s1.heap H).get? b = some o := fun e n => hidT_get e n
    have only : ∀ {b : Addr} {u : HO}, H b = some u → b = a := fun {b u} z => hA b (by rw [z]; exact Option.some_ne_none _)
    have dict_no : ∀ {b : Addr} {o : Obj} {es : Array DictEntry} {ep : Nat}, s1.heap.get? b = some o → o.data = .dict es ep → H b = none := fun {b o es ep} e d => by
      cases z : H b with
      | none => rfl
      | some u =>
        have e' := only z
        subst e'
        rw [ha] at e; cases e
        exact nomatch (show Data.seq vs.toArray _ = Data.dict es ep from d)
    have ns_of : ∀ {b : Addr} {m : Str → Option Value}, s1.heap.Ns b m → (hidT s1.heap H).Ns b m := fun {b m} ⟨o, es, ep, e, d, r⟩ => ⟨o, es, ep, hid e (dict_no e d), d, r⟩
    have kb : K.In (hidT s1.heap H) := fun b o e => hid (KX b o e) (by
      cases z : H b with
      | none => rfl
      | some u =>
        have e' := only z
        subst e'
        rw [hK (by rw [z]; exact Option.some_ne_none _)] at e; cases e)
    have md : Mod K mg (hidT s1.heap H) := ⟨kb, ns_of hns, ⟨mb, ns_of hb, hbb⟩, let ⟨mc, h1, h2⟩ := lim; ⟨mc, ns_of h1, h2⟩⟩
    have e0 : Env0 P w K mg (hidT s1.heap H) callerA [] s1 H := ⟨rfl, md, fun b o e => of_hidT e, Nat.le_of_eq (hidT_size _ _), trivial, fun b z => absurd (show b ∈ ([] : List Addr) from z) List.not_mem_nil, hok, .of_eq hg⟩
    refine codeAny_mono (F _ kb (ns_of hns) s1 H (.ref a) (.ref a) _ e0 (hbind s1 (.ref a)) rfl (hsp H hO hS)) fun r s2 h => ?_
    cases r with
    | error e => exact False.elim h
    | ok fl =>
      cases fl with
      | next => exact False.elim h
      | brk => exact False.elim h
      | cont => exact False.elim h
      | ret u =>
        obtain ⟨v, H2, os, bare, un, hok2, r2, z⟩ := h
        obtain rfl : v = .bl true := z
        obtain rfl : u = Value.bool true := r2
        refine ⟨rfl, OldK.of_keep (fun b o e => ?_), os, bare⟩
        rcases hO b with z | ⟨ob, xs, z⟩
        · exact un.keep b o e z (fun y => absurd (show b ∈ ([] : List Addr) from y) List.not_mem_nil) List.not_mem_nil
        · obtain ⟨e1, _⟩ := hok b _ z
          obtain ⟨e2, _⟩ := hok2 b _ (un.frzs b ob _ z)
          rw [e] at e1; cases e1
          exact e2
  have rv := vals_ints hi
  have ln := hi.length
  cases hk : K.lookup a with
  | some o =>
    have e := KX a o hk
    rw [ha] at e
    cases e
    exact core (fun _ => none) (fun _ => .inl rfl) (.inr ⟨_, vs.toArray, _, hk, rfl, rfl, rfl, by rw [List.size_toArray, ln]; exact hl, by simpa using rv⟩) (fun b u z => nomatch (show (none : Option HO) = some u from z)) (fun b z => absurd rfl z) (fun z => absurd rfl z)
  | none =>
    refine core (upd (fun _ => none) a (.frz { cls := .type "list", data := .seq vs.toArray } (.lst (ns.map V.int)))) (fun b => ?_) (.inl (.inr ⟨{ cls := .type "list", data := .seq vs.toArray }, upd_same⟩)) (fun b u z => ?_) (fun b z => ?_) (fun _ => hk)
    · by_cases e : b = a
      · rw [e]; exact .inr ⟨_, _, upd_same⟩
      · exact .inl (upd_ne e)
    · by_cases e : b = a
      · subst e
        rw [upd_same] at z
        cases z
        exact ⟨ha, by rw [List.length_map]; exact hl, vs, _, rv, ha⟩
      · rw [upd_ne e] at z
        cases z
    · by_cases e : b = a
      · exact e
      · exact absurd (upd_ne e) z
end
/-! what k_head leaves, from the law's promise -/
theorem walk_top {l : PySem.W.OpenLaw} {n : Nat} {q : Program} {loose : List Str} {XP : (Str → Option Value) → Heap → Prop} {YP : World → Heap → Prop} {d : DefRec} {K : Params → PySem.W.Frag} {sp : World → Sp} {x : Str}
    (hn : l.most = some n) (hn2 : n ≤ sizeLine) (hdf : d.params.defaults = []) (hY : ∀ (w : World) (h : Heap), YP w h → (K w.params).In h)
    (F : ∀ (w : World) (mg : Str → Option Value) (fa : Addr) (h : Heap), (K w.params).In h → h.Ns mainGlobals mg → mg d.name = some (.ref fa) →
      ∃ fd : FuncData, (∀ (s : Shared) (u : Value), BindsTo s fd ⟨[u], []⟩ [(x, u)]) ∧ ∀ base : Heap, (K w.params).In base → base.Ns mainGlobals mg → AtTop l.prog w (K w.params) mg base fa fd x (sp w))
    (hsp : ∀ (w : World) (H : Hp) (a : Addr) (ns : List Int), ns.length ≤ n → Only H → SqL (K w.params) H a (ns.map V.int) → sp w [.ref a] H (fun v _ => v = .bl true) E0) :
    PySem.W.WalkO q loose XP YP l.row.toRowW d [] (fun f vs => PySem.call f vs) := by
  refine Att.attach_call hn hdf (fun w s0 s1 mg mb fa o pm cd doc a vs ns G Y ho hd hcd hmg hobj hin hlen hg => ?_)
  have KX := hY w _ Y
  obtain ⟨fd, hb, hF⟩ := F w mg fa _ KX G.T.g hmg
  exact law_at KX G.T.g G.T.b G.T.builtins G.T.nolimit hg hobj hin (Nat.le_trans hlen hn2) hF hb (fun H hO hS => hsp w H a ns hlen hO hS)
end Rw

namespace Rw
open PySem PySem.Spec PyProof.Rows L2
/-! ### the text -/
def topS (i : Nat) : Stmt := PySem.Challenge.pw_ropewarren_k11_ropes_and_stands.main.body.getD i (.Pass ⟨0, 0, 0, 0⟩)
/-! ### what stands at the top: a def that keeps a promise, built-ins that are still theirs -/
def Can (P : Program) (w : World) (K : PySem.W.Frag) (mg : Str → Option Value) (base : Heap) (x : Str) (ps : List Str) (k : Nat) (sp : Sp) : Prop :=
  ∃ f fd, FnOk P w K mg base CX0 k f fd ps sp ∧ mg x = some (.ref f) ∧ PySem.W.keepIn K (.ref f) = true ∧ Binds K fd ps []
def Has (K : PySem.W.Frag) (mg : Str → Option Value) (x : Str) (st : Stmt) : Prop := ∃ f fd, Fun K x x st f fd ∧ mg x = some (.ref f)
structure Blt (mg : Str → Option Value) : Prop where
  isi : mg "isinstance" = none
  int_ : mg "int" = none
  bool_ : mg "bool" = none
  tuple_ : mg "tuple" = none
  list_ : mg "list" = none
  len_ : mg "len" = none
  abs_ : mg "abs" = none
  sorted_ : mg "sorted" = none
  set_ : mg "set" = none
  range_ : mg "range" = none
  min_ : mg "min" = none
  str_ : mg "str" = none
  reversed_ : mg "reversed" = none
  repr_ : mg "repr" = none
  enum_ : mg "enumerate" = none
  max_ : mg "max" = none
  sum_ : mg "sum" = none
  all_ : mg "all" = none
  any_ : mg "any" = none
theorem pe_can {X : Cx} {x : Str} {ps : List Str} {k : Nat} {sp : Sp} {e : Expr} {es : List Expr} {t : TA} {p pos : Pos} (C : Can X.prog X.w X.K X.mg X.base x ps k sp) (hr : Room k X.A) (hg : Gl X x)
    (ha : PA X (e :: es) t) (hdb : (x == ("__debug__" : Str)) = false := by decide) (he : starEach (e :: es) X.env = (false, eval e X.env) :: starEach es X.env := by rfl) (hpl : (backTo pos (starEach es X.env)).any (·.1) = false := by rfl) :
    PE X (.Call (.Name x p) (e :: es) [] pos) (tCall sp [] E0 t) := by
  obtain ⟨f, fd, F, gm, kp, b⟩ := C
  exact pe_call F hr hg gm kp b .nil pass0 ha hdb he hpl
/-! ### isinstance of data -/
def tn : PyData → String
  | .none => "NoneType"
  | .bool _ => "bool"
  | .int _ => "int"
  | .str _ => "str"
  | .list _ => "list"
  | .tuple _ => "tuple"
  | .dict _ => "dict"
theorem Dt.ty {K : PySem.W.Frag} {av : List Addr} {H : Hp} {v : V} {d : PyData} (x : Dt av H v d) : TyX K H v (.type (tn d)) := by
  cases x with
  | non => exact .base .non
  | bl b => exact .base (.bl b)
  | int i => exact .base (.int i)
  | str y => exact .base (.str y)
  | lst _ e _ => exact .base (.lst e)
  | tup _ e _ => exact .base (.tup e)
  | dct _ e => exact .base (.dK e)
def aInt : PyData → Bool
  | .int _ => true
  | .bool _ => true
  | _ => false
def aBool : PyData → Bool
  | .bool _ => true
  | _ => false
def aTup : PyData → Bool
  | .tuple _ => true
  | _ => false
theorem kit_int (d : PyData) : kitB (tn d) "int" = some (aInt d) := by
  cases d <;> first | exact (show kitB "NoneType" "int" = some false by decide +kernel) | exact (show kitB "bool" "int" = some true by decide +kernel) | exact (show kitB "int" "int" = some true by decide +kernel) | exact (show kitB "str" "int" = some false by decide +kernel) | exact (show kitB "list" "int" = some false by decide +kernel) | exact (show kitB "tuple" "int" = some false by decide +kernel) | exact (show kitB "dict" "int" = some false by decide +kernel)
theorem kit_bool (d : PyData) : kitB (tn d) "bool" = some (aBool d) := by
  cases d <;> first | exact (show kitB "NoneType" "bool" = some false by decide +kernel) | exact (show kitB "bool" "bool" = some true by decide +kernel) | exact (show kitB "int" "bool" = some false by decide +kernel) | exact (show kitB "str" "bool" = some false by decide +kernel) | exact (show kitB "list" "bool" = some false by decide +kernel) | exact (show kitB "tuple" "bool" = some false by decide +kernel) | exact (show kitB "dict" "bool" = some false by decide +kernel)
theorem kit_tup (d : PyData) : kitB (tn d) "tuple" = some (aTup d) := by
  cases d <;> first | exact (show kitB "NoneType" "tuple" = some false by decide +kernel) | exact (show kitB "bool" "tuple" = some false by decide +kernel) | exact (show kitB "int" "tuple" = some false by decide +kernel) | exact (show kitB "str" "tuple" = some false by decide +kernel) | exact (show kitB "list" "tuple" = some false by decide +kernel) | exact (show kitB "tuple" "tuple" = some true by decide +kernel) | exact (show kitB "dict" "tuple" = some false by decide +kernel)
def isF : PyData → Bool := fun _ => false
def rIs (T : String) (f : PyData → Bool) : List V → Hp → VK → Prop := fun xs H Q => ∃ v d av, xs = [v, .ty T] ∧ Dt av H v d ∧ Q (.bl (f d)) H
theorem call_isD {X : Cx} {T : String} {f : PyData → Bool} (hf : ∀ d, kitB (tn d) T = some (f d)) : CallR X (.builtin "isinstance") (rIs T f) := by
  intro pins s σ H xs us Q I r h
  obtain ⟨v, d, av, e, hd, q⟩ := h
  exact call_isi pins s σ H xs us Q I r ⟨v, .ty T, .type (tn d), .type T, f d, e, .ty T, hd.ty, kit_ty (hf d), q⟩
end Rw

namespace Rw
open PySem PySem.Spec PyProof.Rows L2
def whole : PyData → Bool
  | .int _ => true
  | _ => false
def within (d : PyData) (lo hi : Int) : Bool := match d with
  | .int i => decide (lo ≤ i) && decide (i ≤ hi)
  | _ => false
def tupOf (d : PyData) (n : Int) : Bool := match d with
  | .tuple ds => decide ((ds.length : Int) = n)
  | _ => false
/-! ### the program's own defs -/
section
variable {P : Program} {w : World} {K : PySem.W.Frag} {mg : Str → Option Value} {base : Heap}
abbrev sWhole : Stmt := topS 4
abbrev sWithin : Stmt := topS 5
abbrev sTupOf : Stmt := topS 7
theorem scWhole : FnScope ["thing"] ["thing"] (defScope sWhole) := ⟨rfl, rfl, rfl, by decide +kernel, rfl, by decide +kernel, by decide +kernel⟩
theorem scWithin : FnScope ["thing", "low", "high"] ["thing", "low", "high"] (defScope sWithin) := ⟨rfl, rfl, rfl, by decide +kernel, rfl, by decide +kernel, by decide +kernel⟩
theorem scTupOf : FnScope ["thing", "many"] ["thing", "many"] (defScope sTupOf) := ⟨rfl, rfl, rfl, by decide +kernel, rfl, by decide +kernel, by decide +kernel⟩
def spWhole : Sp := fun vs H Q _ => ∃ (v : V) (d : PyData) (av : List Addr), vs = [v] ∧ Dt av H v d ∧ Q (.bl (whole d)) H
theorem ok_whole (h : Has K mg "is_whole" sWhole) (B : Blt mg) : Can P w K mg base "is_whole" ["thing"] 1 spWhole := by
  obtain ⟨f, fd, F, g⟩ := h
  refine ⟨f, fd, F.ok (k := 0) scWhole (fun vs H Q E h => ?_) (fun cdv A outer s H vs Q E hr h => ?_), g, F.kp, F.binds fun _ _ _ _ _ _ us hl => match us, hl with | [_], _ => rfl⟩
  · obtain ⟨v, d, av, rfl, _⟩ := h
    rfl
  · obtain ⟨v, d, av, rfl, hd, q⟩ := h
    refine ⟨_, pss_one (ps_ret (pe_and (pe_callB (call_isD kit_int) (by rfl) B.isi boot_isinstance (pa_cons (pv 0) (pa_cons (pe_bltn (v := .ty "int") (by rfl) B.int_ boot_int rfl) pa_nil)))
      (pe_one (pe_not (pe_callB (call_isD kit_bool) (by rfl) B.isi boot_isinstance (pa_cons (pv 0) (pa_cons (pe_bltn (v := .ty "bool") (by rfl) B.bool_ boot_bool rfl) pa_nil))))))), ?_⟩
    refine ⟨v, rfl, v, d, av, rfl, hd, _, rfl, ite2 (fun e => ?_) (fun e => ?_)⟩
    · refine ⟨v, rfl, v, d, av, rfl, hd, _, rfl, ?_⟩
      have z : (!aBool d) = whole d := by cases d <;> first | rfl | cases e
      rw [z]; exact q
    · have z : false = whole d := by cases d <;> first | rfl | exact absurd rfl e
      rw [z]; exact q
def spWithin : Sp := fun vs H Q _ => ∃ (v : V) (d : PyData) (av : List Addr) (lo hi : Int), vs = [v, .int lo, .int hi] ∧ Dt av H v d ∧ Q (.bl (within d lo hi)) H
theorem ok_within (h : Has K mg "is_within" sWithin) (C : Can P w K mg base "is_whole" ["thing"] 1 spWhole) : Can P w K mg base "is_within" ["thing", "low", "high"] 2 spWithin := by
  obtain ⟨f, fd, F, g⟩ := h
  refine ⟨f, fd, F.ok (k := 1) scWithin (fun vs H Q E h => ?_) (fun cdv A outer s H vs Q E hr h => ?_), g, F.kp, F.binds fun _ _ _ _ _ _ us hl => match us, hl with | [_, _, _], _ => rfl⟩
  · obtain ⟨v, d, av, lo, hi, rfl, _⟩ := h
    rfl
  · obtain ⟨v, d, av, lo, hi, rfl, hd, q⟩ := h
    refine ⟨_, pss_one (ps_ret (pe_and (pe_can C hr (by rfl) (pa_cons (pv 0) pa_nil)) (pe_one (pe_chain op_le op_le (pv 1) (pv 0) (pv 2))))), ?_⟩
    refine ⟨v, rfl, v, d, av, rfl, hd, _, rfl, ite2 (fun e => ?_) (fun e => ?_)⟩
    · cases hd <;> first | (cases e; done) | skip
      rename_i i
      refine ⟨.int lo, rfl, .int i, rfl, lo, i, rfl, rfl, _, rfl, ite2 (fun e1 => ?_) (fun e1 => ?_)⟩
      · refine ⟨.int hi, rfl, i, hi, rfl, rfl, ?_⟩
        have z : decide (i ≤ hi) = within (.int i) lo hi := by
          show _ = (decide (lo ≤ i) && decide (i ≤ hi))
          rw [e1, Bool.true_and]
        rw [← z] at q; exact q
      · have z : false = within (.int i) lo hi := by
          show _ = (decide (lo ≤ i) && decide (i ≤ hi))
          rw [show decide (lo ≤ i) = false from Bool.eq_false_iff.mpr e1, Bool.false_and]
        rw [z]; exact q
    · have z : false = within d lo hi := by cases d <;> first | rfl | exact absurd rfl e
      rw [z]; exact q
def spTupOf : Sp := fun vs H Q _ => ∃ (v : V) (d : PyData) (av : List Addr) (n : Int), vs = [v, .int n] ∧ Dt av H v d ∧ Q (.bl (tupOf d n)) H
theorem ok_tupOf (h : Has K mg "is_tuple_of" sTupOf) (B : Blt mg) : Can P w K mg base "is_tuple_of" ["thing", "many"] 1 spTupOf := by
  obtain ⟨f, fd, F, g⟩ := h
  refine ⟨f, fd, F.ok (k := 0) scTupOf (fun vs H Q E h => ?_) (fun cdv A outer s H vs Q E hr h => ?_), g, F.kp, F.binds fun _ _ _ _ _ _ us hl => match us, hl with | [_, _], _ => rfl⟩
  · obtain ⟨v, d, av, n, rfl, _⟩ := h
    rfl
  · obtain ⟨v, d, av, n, rfl, hd, q⟩ := h
    refine ⟨_, pss_one (ps_ret (pe_and (pe_callB (call_isD kit_tup) (by rfl) B.isi boot_isinstance (pa_cons (pv 0) (pa_cons (pe_bltn (v := .ty "tuple") (by rfl) B.tuple_ boot_tuple rfl) pa_nil)))
      (pe_one (pe_cmpR op_eq (pe_callB call_len_seq (by rfl) B.len_ PySem.boot_len (pa_cons (pv 0) pa_nil)) (pv 1) (nomark _))))), ?_⟩
    refine ⟨v, rfl, v, d, av, rfl, hd, _, rfl, ite2 (fun e => ?_) (fun e => ?_)⟩
    · cases hd <;> first | (cases e; done) | skip
      rename_i a xs ds na ea hs
      refine ⟨.ref a, rfl, a, xs, rfl, .inr (SqT.of ea), .int n, rfl, rfl, ?_⟩
      have z : decide (V.int (xs.length : Int) = V.int n) = tupOf (.tuple ds) n := by
        show _ = decide ((ds.length : Int) = n)
        rw [hs.len]
        exact decide_eq_decide.mpr ⟨fun y => V.int.inj y, fun y => by rw [y]⟩
      rw [z]; exact q
    · have z : false = tupOf d n := by cases d <;> first | rfl | exact absurd rfl e
      rw [z]; exact q
end
end Rw

namespace Rw
open PySem PySem.Spec PyProof.Rows L2
/-! ### places of a house, by data -/
def lenOf : PyData → Int
  | .tuple (_ :: _ :: .int l :: _) => l
  | _ => 0
def PipesOk (ps : List PyData) : Prop := ∀ p ∈ ps, ∃ a b l r, p = .tuple (a :: b :: .int l :: r)
def houseD (n : Int) (ps : List PyData) : PyData := .tuple [.int n, .tuple ps]
end Rw

namespace Rw
open PySem PySem.Spec PyProof.Rows L2
theorem Keep.upd {av : List Addr} {H H1 : Hp} {p : Addr} {o : HO} (n : H p = none) (k : Keep av H H1) : Keep av H (upd H1 p o) := fun b z e nb => by
  rw [upd_ne (ne_of_none e n)]; exact k b z e nb
theorem Keep.set {av : List Addr} {H H1 : Hp} {p : Addr} {o : HO} (n : p ∈ av) (k : Keep av H H1) : Keep av H (L2.upd H1 p o) := k.trans (Keep.put n)
theorem Keep.same {H H1 : Hp} (k : Keep [] H H1) : Same H H1 := fun b o e => k b o e List.not_mem_nil
theorem Keep.of {av : List Addr} {H H1 : Hp} (k : Keep [] H H1) : Keep av H H1 := k.mono fun _ m => nomatch m
theorem cut_to (xs : List V) (k : Nat) : cutV xs none (some (k : Int)) = xs.take k := by
  unfold cutV
  rw [HT.sIx_none, HT.sIx_nat, List.drop_zero, Nat.sub_zero]
  by_cases h : k ≤ xs.length
  · rw [Nat.min_eq_left h]
  · rw [Nat.min_eq_right (by omega), List.take_of_length_le (Nat.le_refl _), List.take_of_length_le (by omega)]
theorem cut_from (xs : List V) (k : Nat) : cutV xs (some (k : Int)) none = xs.drop k := by
  unfold cutV
  rw [HT.sIx_none, HT.sIx_nat]
  by_cases h : k ≤ xs.length
  · rw [Nat.min_eq_left h, List.take_of_length_le (by rw [List.length_drop]; exact Nat.le_refl _)]
  · rw [Nat.min_eq_right (by omega), List.drop_of_length_le (Nat.le_refl _), List.drop_of_length_le (show xs.length ≤ k by omega), List.take_nil]
/-! ### the deck: its cells, its rests, its count (at most b) -/
structure Deck (H : Hp) (D C R : Addr) (b : Int) : Prop where
  ex : ∃ (ns rs : List Int) (c : Int), H D = some (.lst [.ref C, .ref R, .int c]) ∧ H C = some (.lst (ns.map V.int)) ∧ H R = some (.lst (rs.map V.int)) ∧
    rs.length = ns.length ∧ 0 < ns.length ∧ ns.length ≤ 100 ∧ (∀ n ∈ ns, 0 ≤ n) ∧ (∀ r ∈ rs, 0 ≤ r) ∧ 0 ≤ c ∧ c ≤ b
  cr : C ≠ R
  dc : D ≠ C
  dr : D ≠ R
theorem Deck.mono {H : Hp} {D C R : Addr} {b b' : Int} (x : Deck H D C R b) (h : b ≤ b') : Deck H D C R b' := by
  obtain ⟨⟨ns, rs, c, e1, e2, e3, e4, e5, e6, e7, e8, e9, e10⟩, n1, n2, n3⟩ := x
  exact ⟨⟨ns, rs, c, e1, e2, e3, e4, e5, e6, e7, e8, e9, by omega⟩, n1, n2, n3⟩
theorem Deck.keep {H H' : Hp} {D C R : Addr} {b : Int} (x : Deck H D C R b) (k : Keep [] H H') : Deck H' D C R b := by
  obtain ⟨⟨ns, rs, c, e1, e2, e3, r⟩, n1, n2, n3⟩ := x
  exact ⟨⟨ns, rs, c, k _ _ e1 List.not_mem_nil, k _ _ e2 List.not_mem_nil, k _ _ e3 List.not_mem_nil, r⟩, n1, n2, n3⟩
/-! a store elsewhere leaves the deck -/
theorem Deck.other {H : Hp} {D C R p : Addr} {b : Int} {o : HO} (x : Deck H D C R b) (h1 : p ≠ D) (h2 : p ≠ C) (h3 : p ≠ R) : Deck (upd H p o) D C R b := by
  obtain ⟨⟨ns, rs, c, e1, e2, e3, r⟩, n1, n2, n3⟩ := x
  exact ⟨⟨ns, rs, c, by rw [upd_ne h1.symm]; exact e1, by rw [upd_ne h2.symm]; exact e2, by rw [upd_ne h3.symm]; exact e3, r⟩, n1, n2, n3⟩
theorem Deck.ne {H : Hp} {D C R p : Addr} {b : Int} (x : Deck H D C R b) (n : H p = none) : p ≠ D ∧ p ≠ C ∧ p ≠ R := by
  obtain ⟨⟨ns, rs, c, e1, e2, e3, r⟩, _⟩ := x
  exact ⟨(ne_of_none e1 n).symm, (ne_of_none e2 n).symm, (ne_of_none e3 n).symm⟩
theorem Deck.new {H : Hp} {D C R p : Addr} {b : Int} {o : HO} (x : Deck H D C R b) (n : H p = none) : Deck (upd H p o) D C R b :=
  x.other (x.ne n).1 (x.ne n).2.1 (x.ne n).2.2
end Rw

namespace Rw
open PySem PySem.Spec PyProof.Rows L2
theorem ixN_at {n : Nat} {i : Int} (h0 : 0 ≤ i) (h : i < n) : ixN n i = some i.toNat := by
  unfold ixN
  rw [if_pos h0]
  first | rw [if_pos (show i.toNat < n by omega)] | (rw [if_pos (show i < n by omega)])
theorem set_map (rs : List Int) (j : Nat) (x : Int) : (rs.map V.int).set j (.int x) = (rs.set j x).map V.int := by rw [List.map_set]
end Rw

namespace Rw
open PySem PySem.Spec PyProof.Rows L2
theorem atI_of {α : Type} {xs : List α} {i : Int} {v : α} (h0 : 0 ≤ i) (h : xs[i.toNat]? = some v) : atI xs i = some v := by
  have hl := (List.getElem?_eq_some_iff.mp h).1
  unfold atI
  rw [ixN_at h0 (by omega)]
  exact h
theorem Deck.at {H : Hp} {D C R : Addr} {b : Int} (x : Deck H D C R b) : (∃ o, H D = some o) ∧ (∃ o, H C = some o) ∧ ∃ o, H R = some o := by
  obtain ⟨⟨ns, rs, c, e1, e2, e3, r⟩, _⟩ := x
  exact ⟨⟨_, e1⟩, ⟨_, e2⟩, ⟨_, e3⟩⟩
theorem Keep.free {H H' : Hp} {D C R p : Addr} {b : Int} (k : Keep [D, R] H H') (x : Deck H' D C R b) (n : H' p = none) : H p = none := by
  cases hq : H p with
  | none => rfl
  | some o =>
    have nd : p ∉ [D, R] := fun m => by
      obtain ⟨n1, n2, n3⟩ := x.ne n
      rcases List.mem_cons.mp m with m | m
      · exact n1 m
      · exact n3 (List.mem_singleton.mp m)
    rw [k p o hq nd] at n; cases n
theorem notDR {D R p : Addr} (h1 : p ≠ D) (h2 : p ≠ R) : p ∉ [D, R] := fun m => by
  rcases List.mem_cons.mp m with m | m
  · exact h1 m
  · exact h2 (List.mem_singleton.mp m)
end Rw

namespace Rw
open PySem PySem.Spec PyProof.Rows L2
/-! addresses that are tracked -/
def Tr (av : List Addr) (H : Hp) : Prop := ∀ a ∈ av, ∃ o, H a = some o
theorem Tr.not {av : List Addr} {H : Hp} {p : Addr} (t : Tr av H) (n : H p = none) : p ∉ av := fun m => by
  obtain ⟨o, e⟩ := t p m
  rw [n] at e; cases e
theorem Tr.upd {av : List Addr} {H : Hp} {p : Addr} {o : HO} (t : Tr av H) : Tr av (upd H p o) := fun a m => by
  by_cases e : a = p
  · subst e; exact ⟨o, upd_same⟩
  · obtain ⟨u, z⟩ := t a m
    exact ⟨u, by rw [upd_ne e]; exact z⟩
theorem Tr.cons {av : List Addr} {H : Hp} {p : Addr} {o : HO} (t : Tr av H) (e : H p = some o) : Tr (p :: av) H := fun a m => by
  rcases List.mem_cons.mp m with m | m
  · rw [m]; exact ⟨o, e⟩
  · exact t a m
theorem Tr.keep {av : List Addr} {H H' : Hp} {D C R : Addr} {b : Int} (t : Tr av H) (k : Keep [D, R] H H') (d : Deck H' D C R b) : Tr av H' := fun a m => by
  cases e : H' a with
  | some o => exact ⟨o, rfl⟩
  | none =>
    obtain ⟨o, z⟩ := t a m
    rw [k.free d e] at z; cases z
theorem ix_listK {X : Cx} {K : PySem.W.Frag} (h : X.K = K) : IxR X (rIxL K) := by subst h; exact ix_list
theorem pick4 (a b c d : Int) (n : Nat) (h : n < 4) : ∃ j, [V.int a, V.int b, V.int c, V.int d][n]? = some (.int j) ∧ (j = a ∨ j = b ∨ j = c ∨ j = d) := by
  match n, h with
  | 0, _ => exact ⟨a, rfl, .inl rfl⟩
  | 1, _ => exact ⟨b, rfl, .inr (.inl rfl)⟩
  | 2, _ => exact ⟨c, rfl, .inr (.inr (.inl rfl))⟩
  | 3, _ => exact ⟨d, rfl, .inr (.inr (.inr rfl))⟩
/-! ### a pipe, by data -/
def prD (p : Int × Int) : PyData := .tuple [.int p.1, .int p.2]
def pipeD (x y l : Int) (na fl : List (Int × Int)) : PyData := .tuple [.int x, .int y, .int l, .tuple (na.map prD), .tuple (fl.map prD)]
structure Fit (l : Int) (na fl : List (Int × Int)) : Prop where
  l1 : 1 ≤ l
  l2 : l ≤ 1000000000000
  nup : (na.map (·.1)).Pairwise (· < ·)
  nin : ∀ p ∈ na, 1 ≤ p.1 ∧ p.1 ≤ l - 1 ∧ 1 ≤ p.2 ∧ p.2 ≤ 1000000
  fup : (fl.map (·.1)).Pairwise (· < ·)
  fin : ∀ p ∈ fl, 0 ≤ p.1 ∧ p.1 ≤ l - 1 ∧ (p.2 = 1 ∨ p.2 = -1)
  nle : na.length ≤ 3
  fle : fl.length ≤ 4
end Rw

namespace Rw
/-! ### rooms joined by pipes: two ways to look, one word -/
abbrev Ed := Nat × Nat
/-! what any parting of the rooms that no pipe crosses says -/
def Con (n : Nat) (E : List Ed) : Prop := ∀ S : Nat → Bool, (∀ e ∈ E, S e.1 = S e.2) → ∀ a, a < n → S a = S 0
/-! groups -/
def grp (g : List Int) (a : Nat) : Int := g.getD a 0
def merge (k o : Int) (g : List Int) : List Int := g.map fun v => if v = o then k else v
def step (g : List Int) (e : Ed) : List Int := merge (grp g e.1) (grp g e.2) g
def joins : List Int → List Ed → Bool
  | _, [] => true
  | g, e :: E => if grp g e.1 = grp g e.2 then false else joins (step g e) E
def start (n : Nat) : List Int := (List.range n).map Int.ofNat
theorem merge_len (k o : Int) (g : List Int) : (merge k o g).length = g.length := List.length_map _
theorem merge_grp {g : List Int} {a : Nat} (h : a < g.length) (k o : Int) : grp (merge k o g) a = if grp g a = o then k else grp g a := by
  unfold grp merge
  rw [List.getD_eq_getElem?_getD, List.getElem?_map, List.getD_eq_getElem?_getD, List.getElem?_eq_getElem h]
  rfl
theorem merge_self (k : Int) (g : List Int) : merge k k g = g := by
  unfold merge
  conv => rhs; rw [← List.map_id g]
  apply List.map_congr_left
  intro v _
  by_cases h : v = k
  · rw [if_pos h, h]; rfl
  · rw [if_neg h]; rfl
/-! how many names of groups are left -/
def used (n : Nat) (g : List Int) : List Nat := (List.range n).filter fun v => decide ((v : Int) ∈ g)
theorem grp_mem {g : List Int} {a : Nat} (h : a < g.length) : grp g a ∈ g := by
  unfold grp
  rw [List.getD_eq_getElem?_getD, List.getElem?_eq_getElem h]
  exact List.getElem_mem h
theorem mem_grp {g : List Int} {v : Int} (h : v ∈ g) : ∃ a, a < g.length ∧ grp g a = v := by
  obtain ⟨a, ha, e⟩ := List.mem_iff_getElem.mp h
  refine ⟨a, ha, ?_⟩
  unfold grp
  rw [List.getD_eq_getElem?_getD, List.getElem?_eq_getElem ha, ← e]; rfl
theorem mem_merge {k o v : Int} {g : List Int} (hk : k ∈ g) (hko : k ≠ o) : v ∈ merge k o g ↔ v ∈ g ∧ v ≠ o := by
  unfold merge
  rw [List.mem_map]
  constructor
  · rintro ⟨u, hu, e⟩
    by_cases h : u = o
    · rw [if_pos h] at e; subst e; exact ⟨hk, hko⟩
    · rw [if_neg h] at e; subst e; exact ⟨hu, h⟩
  · rintro ⟨hv, ho⟩
    exact ⟨v, hv, if_neg ho⟩
theorem filter_drop {n : Nat} {p : Nat → Bool} {o : Nat} : ∀ l : List Nat, l.Nodup → o ∈ l → p o = true → (l.filter fun v => p v && decide (v ≠ o)).length + 1 = (l.filter p).length
  | [], _, h, _ => nomatch h
  | x :: l, nd, h, hp => by
    rw [List.nodup_cons] at nd
    by_cases e : x = o
    · subst e
      have z : (l.filter fun v => p v && decide (v ≠ x)) = l.filter p := by
        apply List.filter_congr
        intro v hv
        have : v ≠ x := fun q => nd.1 (q ▸ hv)
        rw [decide_eq_true this, Bool.and_true]
      rw [List.filter_cons, List.filter_cons, hp]
      simp only [ne_eq, not_true_eq_false, decide_false, Bool.and_false, Bool.false_eq_true, if_false, if_true]
      rw [List.length_cons]
      simp only [ne_eq] at z
      rw [z]
    · have h' : o ∈ l := (List.mem_cons.mp h).elim (fun q => absurd q.symm e) id
      have ih := filter_drop (n := n) l nd.2 h' hp
      rw [List.filter_cons, List.filter_cons, decide_eq_true e, Bool.and_true]
      by_cases px : p x = true
      · rw [if_pos px, if_pos px, List.length_cons, List.length_cons]; omega
      · rw [if_neg px, if_neg px]; exact ih
structure Gs (n : Nat) (g : List Int) : Prop where
  len : g.length = n
  rng : ∀ v ∈ g, 0 ≤ v ∧ v < n
theorem Gs.start (n : Nat) : Gs n (start n) := by
  refine ⟨by unfold Rw.start; rw [List.length_map, List.length_range], fun v hv => ?_⟩
  unfold Rw.start at hv
  obtain ⟨a, ha, rfl⟩ := List.mem_map.mp hv
  have := List.mem_range.mp ha
  exact ⟨Int.natCast_nonneg a, Int.ofNat_lt.mpr this⟩
theorem Gs.step {n : Nat} {g : List Int} {e : Ed} (h : Gs n g) (h1 : e.1 < n) (h2 : e.2 < n) : Gs n (step g e) := by
  refine ⟨by unfold Rw.step; rw [merge_len]; exact h.len, fun v hv => ?_⟩
  unfold Rw.step merge at hv
  obtain ⟨u, hu, rfl⟩ := List.mem_map.mp hv
  by_cases q : u = grp g e.2
  · rw [if_pos q]; exact h.rng _ (grp_mem (by rw [h.len]; exact h1))
  · rw [if_neg q]; exact h.rng u hu
theorem used_step {n : Nat} {g : List Int} {e : Ed} (h : Gs n g) (h1 : e.1 < n) (h2 : e.2 < n) (ne : grp g e.1 ≠ grp g e.2) : (used n (step g e)).length + 1 = (used n g).length := by
  have m1 : grp g e.1 ∈ g := grp_mem (by rw [h.len]; exact h1)
  have m2 : grp g e.2 ∈ g := grp_mem (by rw [h.len]; exact h2)
  have r2 := h.rng _ m2
  have eo : ((grp g e.2).toNat : Int) = grp g e.2 := by omega
  unfold used Rw.step
  have z : ((List.range n).filter fun (v : Nat) => decide ((v : Int) ∈ merge (grp g e.1) (grp g e.2) g)) = (List.range n).filter fun (v : Nat) => decide ((v : Int) ∈ g) && decide (v ≠ (grp g e.2).toNat) := by
    apply List.filter_congr
    intro v _
    rw [← Bool.decide_and]
    apply decide_eq_decide.mpr
    rw [mem_merge m1 ne]
    constructor
    · rintro ⟨a, b⟩; exact ⟨a, fun q => b (by rw [q]; exact eo)⟩
    · rintro ⟨a, b⟩; exact ⟨a, fun q => b (by omega)⟩
  rw [z]
  exact filter_drop (n := n) (List.range n) List.nodup_range (List.mem_range.mpr (by omega)) (decide_eq_true (by rw [eo]; exact m2))
theorem used_start (n : Nat) : (used n (start n)).length = n := by
  unfold used
  rw [List.filter_eq_self.mpr (fun v hv => decide_eq_true (by unfold Rw.start; exact List.mem_map.mpr ⟨v, hv, rfl⟩)), List.length_range]
/-! all pipes taken, whether or not they join anew -/
def run (g : List Int) (E : List Ed) : List Int := E.foldl step g
theorem run_gs {n : Nat} : ∀ (E : List Ed) (g : List Int), (∀ e ∈ E, e.1 < n ∧ e.2 < n) → Gs n g → Gs n (run g E)
  | [], g, _, h => h
  | e :: E, g, hE, h => run_gs E (step g e) (fun f m => hE f (List.mem_cons_of_mem _ m)) (h.step (hE e List.mem_cons_self).1 (hE e List.mem_cons_self).2)
theorem used_run {n : Nat} : ∀ (E : List Ed) (g : List Int), (∀ e ∈ E, e.1 < n ∧ e.2 < n) → Gs n g → (used n g).length ≤ (used n (run g E)).length + E.length ∧ (joins g E = true → (used n g).length = (used n (run g E)).length + E.length) ∧ (joins g E = false → (used n g).length < (used n (run g E)).length + E.length)
  | [], g, _, h => ⟨Nat.le_refl _, fun _ => rfl, fun q => nomatch q⟩
  | e :: E, g, hE, h => by
    have he := hE e List.mem_cons_self
    have ih := used_run E (step g e) (fun f m => hE f (List.mem_cons_of_mem _ m)) (h.step he.1 he.2)
    have er : run g (e :: E) = run (step g e) E := rfl
    have ej : joins g (e :: E) = if grp g e.1 = grp g e.2 then false else joins (step g e) E := rfl
    rw [er, ej, List.length_cons]
    by_cases q : grp g e.1 = grp g e.2
    · have es : step g e = g := by unfold Rw.step; rw [q]; exact merge_self _ _
      rw [es] at ih ⊢
      rw [if_pos q]
      exact ⟨by omega, fun z => absurd z (by decide), fun _ => by omega⟩
    · have u := used_step h he.1 he.2 q
      rw [if_neg q]
      refine ⟨by omega, fun z => ?_, fun z => ?_⟩
      · have := ih.2.1 z; omega
      · have := ih.2.2 z; omega
/-! rooms of one group stay of one group; a pipe's rooms are of one -/
theorem step_keep {g : List Int} {e : Ed} {a b : Nat} (ha : a < g.length) (hb : b < g.length) (h : grp g a = grp g b) : grp (step g e) a = grp (step g e) b := by
  unfold step
  rw [merge_grp ha, merge_grp hb, h]
theorem step_both {g : List Int} {e : Ed} (ha : e.1 < g.length) (hb : e.2 < g.length) : grp (step g e) e.1 = grp (step g e) e.2 := by
  unfold step
  rw [merge_grp ha, merge_grp hb, if_pos rfl]
  split <;> rfl
theorem run_keep {n : Nat} : ∀ (E : List Ed) (g : List Int), (∀ e ∈ E, e.1 < n ∧ e.2 < n) → Gs n g → ∀ a b, a < n → b < n → grp g a = grp g b → grp (run g E) a = grp (run g E) b
  | [], _, _, _, _, _, _, _, h => h
  | e :: E, g, hE, hg, a, b, ha, hb, h => by
    have he := hE e List.mem_cons_self
    exact run_keep E (step g e) (fun f m => hE f (List.mem_cons_of_mem _ m)) (hg.step he.1 he.2) a b ha hb (step_keep (by rw [hg.len]; exact ha) (by rw [hg.len]; exact hb) h)
theorem run_edges {n : Nat} : ∀ (E : List Ed) (g : List Int), (∀ e ∈ E, e.1 < n ∧ e.2 < n) → Gs n g → ∀ e ∈ E, grp (run g E) e.1 = grp (run g E) e.2
  | [], _, _, _, _, m => nomatch m
  | e :: E, g, hE, hg, f, m => by
    have he := hE e List.mem_cons_self
    have hg' := hg.step he.1 he.2
    have hE' : ∀ f ∈ E, f.1 < n ∧ f.2 < n := fun f m => hE f (List.mem_cons_of_mem _ m)
    rcases List.mem_cons.mp m with m | m
    · subst m
      exact run_keep E (step g f) hE' hg' f.1 f.2 he.1 he.2 (step_both (by rw [hg.len]; exact he.1) (by rw [hg.len]; exact he.2))
    · exact run_edges E (step g e) hE' hg' f m
/-! a parting that no pipe crosses holds groups together -/
theorem run_part {n : Nat} (S : Nat → Bool) : ∀ (E : List Ed) (g : List Int), (∀ e ∈ E, e.1 < n ∧ e.2 < n) → (∀ e ∈ E, S e.1 = S e.2) → Gs n g → (∀ a b, a < n → b < n → grp g a = grp g b → S a = S b) → ∀ a b, a < n → b < n → grp (run g E) a = grp (run g E) b → S a = S b
  | [], _, _, _, _, h, a, b, ha, hb, e => h a b ha hb e
  | e :: E, g, hE, hS, hg, h, a, b, ha, hb, q => by
    have he := hE e List.mem_cons_self
    have hs := hS e List.mem_cons_self
    refine run_part S E (step g e) (fun f m => hE f (List.mem_cons_of_mem _ m)) (fun f m => hS f (List.mem_cons_of_mem _ m)) (hg.step he.1 he.2) (fun c d hc hd z => ?_) a b ha hb q
    unfold step at z
    rw [merge_grp (by rw [hg.len]; exact hc), merge_grp (by rw [hg.len]; exact hd)] at z
    by_cases c1 : grp g c = grp g e.2
    · by_cases d1 : grp g d = grp g e.2
      · exact h c d hc hd (c1.trans d1.symm)
      · rw [if_pos c1, if_neg d1] at z
        rw [h c e.2 hc he.2 c1, ← hs, h d e.1 hd he.1 z.symm]
    · by_cases d1 : grp g d = grp g e.2
      · rw [if_neg c1, if_pos d1] at z
        rw [h d e.2 hd he.2 d1, ← hs, h c e.1 hc he.1 z]
      · rw [if_neg c1, if_neg d1] at z
        exact h c d hc hd z
theorem start_inj {n a b : Nat} (ha : a < n) (hb : b < n) (h : grp (start n) a = grp (start n) b) : a = b := by
  unfold grp start at h
  rw [List.getD_eq_getElem?_getD, List.getD_eq_getElem?_getD, List.getElem?_map, List.getElem?_map, List.getElem?_range ha, List.getElem?_range hb] at h
  exact Int.ofNat.inj h
theorem one_used {n : Nat} {g : List Int} (hg : Gs n g) (h : (used n g).length ≤ 1) {a b : Nat} (ha : a < n) (hb : b < n) : grp g a = grp g b := by
  have ma := grp_mem (g := g) (by rw [hg.len]; exact ha)
  have mb := grp_mem (g := g) (by rw [hg.len]; exact hb)
  have ra := hg.rng _ ma
  have rb := hg.rng _ mb
  have ua : (grp g a).toNat ∈ used n g := List.mem_filter.mpr ⟨List.mem_range.mpr (by omega), decide_eq_true (by rw [show (((grp g a).toNat : Nat) : Int) = grp g a by omega]; exact ma)⟩
  have ub : (grp g b).toNat ∈ used n g := List.mem_filter.mpr ⟨List.mem_range.mpr (by omega), decide_eq_true (by rw [show (((grp g b).toNat : Nat) : Int) = grp g b by omega]; exact mb)⟩
  match hu : used n g, h with
  | [], _ => rw [hu] at ua; exact absurd ua List.not_mem_nil
  | [x], _ =>
    rw [hu] at ua ub
    have e1 := List.mem_singleton.mp ua
    have e2 := List.mem_singleton.mp ub
    omega
theorem used_one {n : Nat} {g : List Int} (hg : Gs n g) (h : ∀ a, a < n → grp g a = grp g 0) : (used n g).length ≤ 1 := by
  have nd : (used n g).Nodup := List.nodup_range.filter _
  have all : ∀ v ∈ used n g, (v : Int) = grp g 0 := fun v hv => by
    obtain ⟨a, ha, e⟩ := mem_grp (of_decide_eq_true (List.mem_filter.mp hv).2)
    rw [← e]
    exact h a (by rw [← hg.len]; exact ha)
  match hu : used n g, nd, all with
  | [], _, _ => exact Nat.zero_le _
  | [x], _, _ => exact Nat.le_refl _
  | x :: y :: r, nd, all =>
    have e1 := all x List.mem_cons_self
    have e2 := all y (List.mem_cons_of_mem _ List.mem_cons_self)
    rw [List.nodup_cons] at nd
    exact absurd (show x ∈ y :: r by rw [show x = y by omega]; exact List.mem_cons_self) nd.1
theorem joins_iff {n : Nat} {E : List Ed} (hn : 0 < n) (hE : ∀ e ∈ E, e.1 < n ∧ e.2 < n) (hl : E.length + 1 = n) : joins (start n) E = true ↔ Con n E := by
  have hg := Gs.start n
  have hr := run_gs E (start n) hE hg
  have hu := used_run E (start n) hE hg
  rw [used_start] at hu
  constructor
  · intro hj S hS a ha
    have h1 := hu.2.1 hj
    have eq := one_used hr (by omega) ha hn
    exact run_part S E (start n) hE hS hg (fun c d hc hd z => by rw [start_inj hc hd z]) a 0 ha hn eq
  · intro hc
    cases hj : joins (start n) E with
    | true => rfl
    | false =>
      have h1 := hu.2.2 hj
      have all : ∀ a, a < n → grp (run (start n) E) a = grp (run (start n) E) 0 := fun a ha => by
        have z := hc (fun a => decide (grp (run (start n) E) a = grp (run (start n) E) 0)) (fun e m => by
          have := run_edges E (start n) hE hg e m
          show decide _ = decide _
          rw [this]) a ha
        have z0 : decide (grp (run (start n) E) 0 = grp (run (start n) E) 0) = true := decide_eq_true rfl
        exact of_decide_eq_true (z.trans z0)
      have := used_one hr all
      omega
end Rw

namespace Rw
structure Pi where
  x : Int
  y : Int
  l : Int
  na : List (Int × Int)
  fl : List (Int × Int)
deriving Inhabited
def edges (ps : List Pi) : List Ed := ps.map fun p => (p.x.toNat, p.y.toNat)
end Rw

namespace Rw
/-! ### distances of rooms in a house: a tree's metric, built pipe by pipe -/
def Dn (ps : List Pi) (d : Int → Int → Int) (s t : Int) (i : Nat) : Prop :=
  ∃ p, ps[i]? = some p ∧ ((p.x = t ∧ d s p.y + p.l = d s t) ∨ (p.y = t ∧ d s p.x + p.l = d s t))
structure FM (ps : List Pi) (g : Int → Int) (d : Int → Int → Int) : Prop where
  len : ∀ p ∈ ps, 1 ≤ p.l
  zero : ∀ s, d s s = 0
  sym : ∀ s t, d s t = d t s
  pos : ∀ s t, g s = g t → s ≠ t → 0 < d s t
  ends : ∀ p ∈ ps, g p.x = g p.y
  step : ∀ p ∈ ps, ∀ s, g s = g p.x → d s p.x = d s p.y + p.l ∨ d s p.y = d s p.x + p.l
  par : ∀ s t, g s = g t → s ≠ t → ∃ i, Dn ps d s t i
  uni : ∀ s t i j, g s = g t → Dn ps d s t i → Dn ps d s t j → i = j
  side : ∀ (i j : Nat) (p q : Pi), i ≠ j → ps[i]? = some p → ps[j]? = some q → g p.x = g q.x → d p.x q.x - d p.y q.x = d p.x q.y - d p.y q.y
theorem FM.nn {ps : List Pi} {g : Int → Int} {d : Int → Int → Int} (F : FM ps g d) {s t : Int} (h : g s = g t) : 0 ≤ d s t := by
  by_cases e : s = t
  · subst e; rw [F.zero]; exact Int.le_refl 0
  · have := F.pos s t h e; omega
def g1 (g : Int → Int) (p : Pi) (r : Int) : Int := if g r = g p.y then g p.x else g r
def d1 (g : Int → Int) (d : Int → Int → Int) (p : Pi) (s t : Int) : Int :=
  if g s = g t then d s t else if g s = g p.x ∧ g t = g p.y then d s p.x + p.l + d p.y t else if g s = g p.y ∧ g t = g p.x then d s p.y + p.l + d p.x t else 0
theorem FM.empty : FM [] id (fun _ _ => 0) where
  len := fun _ h => nomatch h
  zero := fun _ => rfl
  sym := fun _ _ => rfl
  pos := fun s t h n => absurd h n
  ends := fun _ h => nomatch h
  step := fun _ h => nomatch h
  par := fun s t h n => absurd h n
  uni := fun _ _ _ _ _ ⟨_, h, _⟩ => by simp at h
  side := fun _ _ _ _ _ h => by simp at h
section
variable {ps : List Pi} {g : Int → Int} {d : Int → Int → Int} {p : Pi}
theorem d1_same {s t : Int} (h : g s = g t) : d1 g d p s t = d s t := by unfold d1; rw [if_pos h]
theorem d1_ab (ne : g p.x ≠ g p.y) {s t : Int} (h1 : g s = g p.x) (h2 : g t = g p.y) : d1 g d p s t = d s p.x + p.l + d p.y t := by
  unfold d1; rw [if_neg (by rw [h1, h2]; exact ne), if_pos ⟨h1, h2⟩]
theorem d1_ba (ne : g p.x ≠ g p.y) {s t : Int} (h1 : g s = g p.y) (h2 : g t = g p.x) : d1 g d p s t = d s p.y + p.l + d p.x t := by
  unfold d1; rw [if_neg (by rw [h1, h2]; exact ne.symm), if_neg (by rw [h1]; exact fun z => ne z.1.symm), if_pos ⟨h1, h2⟩]
theorem g1_cases {s t : Int} (h : g1 g p s = g1 g p t) : g s = g t ∨ (g s = g p.x ∧ g t = g p.y) ∨ (g s = g p.y ∧ g t = g p.x) := by
  unfold g1 at h
  split at h <;> split at h <;> rename_i a b
  · exact .inl (a.trans b.symm)
  · exact .inr (.inr ⟨a, h.symm⟩)
  · exact .inr (.inl ⟨h, b⟩)
  · exact .inl h
theorem get_snoc {i : Nat} {q : Pi} (h : (ps ++ [p])[i]? = some q) : (ps[i]? = some q ∧ q ∈ ps) ∨ (i = ps.length ∧ q = p) := by
  by_cases hi : i < ps.length
  · rw [List.getElem?_append_left hi] at h
    exact .inl ⟨h, List.mem_of_getElem? h⟩
  · rw [List.getElem?_append_right (by omega)] at h
    right
    have : i - ps.length = 0 := by
      apply Classical.byContradiction
      intro z
      rw [List.getElem?_eq_none (by simp; omega)] at h
      cases h
    rw [this] at h
    simp at h
    exact ⟨by omega, h.symm⟩
theorem snoc_get {i : Nat} {q : Pi} (h : ps[i]? = some q) : (ps ++ [p])[i]? = some q := by
  rw [List.getElem?_append_left (List.getElem?_eq_some_iff.mp h).1]; exact h
theorem snoc_last : (ps ++ [p])[ps.length]? = some p := by
  rw [List.getElem?_append_right (Nat.le_refl _), Nat.sub_self]; rfl
/-! going down: old pipes of the same group, of the other one -/
theorem dn_same (F : FM ps g d) {s t : Int} (h : g s = g t) {i : Nat} {q : Pi} (e : ps[i]? = some q) (m : q ∈ ps) :
    ((q.x = t ∧ d1 g d p s q.y + q.l = d1 g d p s t) ∨ (q.y = t ∧ d1 g d p s q.x + q.l = d1 g d p s t)) ↔ ((q.x = t ∧ d s q.y + q.l = d s t) ∨ (q.y = t ∧ d s q.x + q.l = d s t)) := by
  have en := F.ends q m
  rw [d1_same h]
  constructor <;> rintro (⟨a, b⟩ | ⟨a, b⟩)
  · exact .inl ⟨a, by rw [d1_same (by rw [h, ← a, en])] at b; exact b⟩
  · exact .inr ⟨a, by rw [d1_same (by rw [h, ← a, en])] at b; exact b⟩
  · exact .inl ⟨a, by rw [d1_same (by rw [h, ← a, en])]; exact b⟩
  · exact .inr ⟨a, by rw [d1_same (by rw [h, ← a, en])]; exact b⟩
theorem dn_ab (F : FM ps g d) (ne : g p.x ≠ g p.y) {s t : Int} (h1 : g s = g p.x) (h2 : g t = g p.y) {q : Pi} (m : q ∈ ps) :
    ((q.x = t ∧ d1 g d p s q.y + q.l = d1 g d p s t) ∨ (q.y = t ∧ d1 g d p s q.x + q.l = d1 g d p s t)) ↔ ((q.x = t ∧ d p.y q.y + q.l = d p.y t) ∨ (q.y = t ∧ d p.y q.x + q.l = d p.y t)) := by
  have en := F.ends q m
  rw [d1_ab ne h1 h2]
  constructor <;> rintro (⟨a, b⟩ | ⟨a, b⟩)
  · exact .inl ⟨a, by rw [d1_ab ne h1 (by rw [← h2, ← a, en])] at b; omega⟩
  · exact .inr ⟨a, by rw [d1_ab ne h1 (by rw [← h2, ← a, en])] at b; omega⟩
  · exact .inl ⟨a, by rw [d1_ab ne h1 (by rw [← h2, ← a, en])]; omega⟩
  · exact .inr ⟨a, by rw [d1_ab ne h1 (by rw [← h2, ← a, en])]; omega⟩
theorem dn_ba (F : FM ps g d) (ne : g p.x ≠ g p.y) {s t : Int} (h1 : g s = g p.y) (h2 : g t = g p.x) {q : Pi} (m : q ∈ ps) :
    ((q.x = t ∧ d1 g d p s q.y + q.l = d1 g d p s t) ∨ (q.y = t ∧ d1 g d p s q.x + q.l = d1 g d p s t)) ↔ ((q.x = t ∧ d p.x q.y + q.l = d p.x t) ∨ (q.y = t ∧ d p.x q.x + q.l = d p.x t)) := by
  have en := F.ends q m
  rw [d1_ba ne h1 h2]
  constructor <;> rintro (⟨a, b⟩ | ⟨a, b⟩)
  · exact .inl ⟨a, by rw [d1_ba ne h1 (by rw [← h2, ← a, en])] at b; omega⟩
  · exact .inr ⟨a, by rw [d1_ba ne h1 (by rw [← h2, ← a, en])] at b; omega⟩
  · exact .inl ⟨a, by rw [d1_ba ne h1 (by rw [← h2, ← a, en])]; omega⟩
  · exact .inr ⟨a, by rw [d1_ba ne h1 (by rw [← h2, ← a, en])]; omega⟩
/-! the new pipe and an old one can't both lead down -/
theorem dn_new_old (F : FM ps g d) (ne : g p.x ≠ g p.y) (hl : 1 ≤ p.l) {s t : Int} (h : g1 g p s = g1 g p t) {q : Pi} (m : q ∈ ps)
    (hp : (p.x = t ∧ d1 g d p s p.y + p.l = d1 g d p s t) ∨ (p.y = t ∧ d1 g d p s p.x + p.l = d1 g d p s t))
    (hq : (q.x = t ∧ d1 g d p s q.y + q.l = d1 g d p s t) ∨ (q.y = t ∧ d1 g d p s q.x + q.l = d1 g d p s t)) : False := by
  have en := F.ends q m
  have ql := F.len q m
  rcases hp with ⟨rfl, b⟩ | ⟨rfl, b⟩
  · rcases g1_cases h with c | ⟨c1, c2⟩ | ⟨c1, c2⟩
    · rw [d1_ab ne c rfl, d1_same c, F.zero] at b; omega
    · exact ne c2
    · rcases (dn_ba F ne c1 c2 m).mp hq with ⟨a, z⟩ | ⟨a, z⟩
      · have := F.nn (s := p.x) (t := q.y) (by rw [← en, a]); rw [F.zero] at z; omega
      · have := F.nn (s := p.x) (t := q.x) (by rw [en, a]); rw [F.zero] at z; omega
  · rcases g1_cases h with c | ⟨c1, c2⟩ | ⟨c1, c2⟩
    · rw [d1_ba ne c rfl, d1_same c, F.zero] at b; omega
    · rcases (dn_ab F ne c1 c2 m).mp hq with ⟨a, z⟩ | ⟨a, z⟩
      · have := F.nn (s := p.y) (t := q.y) (by rw [← en, a]); rw [F.zero] at z; omega
      · have := F.nn (s := p.y) (t := q.x) (by rw [en, a]); rw [F.zero] at z; omega
    · exact ne c2.symm
theorem FM.snoc (F : FM ps g d) (ne : g p.x ≠ g p.y) (hl : 1 ≤ p.l) : FM (ps ++ [p]) (g1 g p) (d1 g d p) where
  len := fun q m => (List.mem_append.mp m).elim (F.len q) fun z => by rw [List.mem_singleton.mp z]; exact hl
  zero := fun s => by rw [d1_same rfl]; exact F.zero s
  sym := fun s t => by
    show d1 g d p s t = d1 g d p t s
    by_cases h : g s = g t
    · rw [d1_same h, d1_same h.symm]; exact F.sym s t
    · by_cases h1 : g s = g p.x ∧ g t = g p.y
      · rw [d1_ab ne h1.1 h1.2, d1_ba ne h1.2 h1.1, F.sym s p.x, F.sym t p.y]; omega
      · by_cases h2 : g s = g p.y ∧ g t = g p.x
        · rw [d1_ba ne h2.1 h2.2, d1_ab ne h2.2 h2.1, F.sym s p.y, F.sym t p.x]; omega
        · unfold d1
          rw [if_neg h, if_neg h1, if_neg h2, if_neg (fun z : g t = g s => h z.symm), if_neg (fun z : g t = g p.x ∧ g s = g p.y => h2 ⟨z.2, z.1⟩), if_neg (fun z : g t = g p.y ∧ g s = g p.x => h1 ⟨z.2, z.1⟩)]
  pos := fun s t h n => by
    rcases g1_cases h with c | ⟨c1, c2⟩ | ⟨c1, c2⟩
    · rw [d1_same c]; exact F.pos s t c n
    · rw [d1_ab ne c1 c2]; have := F.nn c1; have := F.nn (s := p.y) (t := t) c2.symm; omega
    · rw [d1_ba ne c1 c2]; have := F.nn c1; have := F.nn (s := p.x) (t := t) c2.symm; omega
  ends := fun q m => by
    rcases List.mem_append.mp m with m | m
    · unfold g1; rw [F.ends q m]
    · rw [List.mem_singleton.mp m]; unfold g1; rw [if_pos rfl, if_neg ne]
  step := fun q m s h => by
    rcases List.mem_append.mp m with m | m
    · have en := F.ends q m
      rcases g1_cases h with c | ⟨c1, c2⟩ | ⟨c1, c2⟩
      · rw [d1_same c, d1_same (c.trans en)]; exact F.step q m s c
      · rw [d1_ab ne c1 c2, d1_ab ne c1 (en.symm.trans c2)]; have := F.step q m p.y c2.symm; omega
      · rw [d1_ba ne c1 c2, d1_ba ne c1 (en.symm.trans c2)]; have := F.step q m p.x c2.symm; omega
    · rw [List.mem_singleton.mp m] at h ⊢
      rcases g1_cases h with c | ⟨c1, c2⟩ | ⟨c1, c2⟩
      · rw [d1_same c, d1_ab ne c rfl, F.zero]; omega
      · exact absurd c2 ne
      · rw [d1_ba ne c1 rfl, d1_same c1, F.zero]; omega
  par := fun s t h n => by
    rcases g1_cases h with c | ⟨c1, c2⟩ | ⟨c1, c2⟩
    · obtain ⟨i, q, e, z⟩ := F.par s t c n
      exact ⟨i, q, snoc_get e, (dn_same F c e (List.mem_of_getElem? e)).mpr z⟩
    · by_cases e : p.y = t
      · subst e
        exact ⟨ps.length, p, snoc_last, .inr ⟨rfl, by rw [d1_same c1, d1_ab ne c1 rfl, F.zero]; omega⟩⟩
      · obtain ⟨i, q, e, z⟩ := F.par p.y t c2.symm e
        exact ⟨i, q, snoc_get e, (dn_ab F ne c1 c2 (List.mem_of_getElem? e)).mpr z⟩
    · by_cases e : p.x = t
      · subst e
        exact ⟨ps.length, p, snoc_last, .inl ⟨rfl, by rw [d1_same c1, d1_ba ne c1 rfl, F.zero]; omega⟩⟩
      · obtain ⟨i, q, e, z⟩ := F.par p.x t c2.symm e
        exact ⟨i, q, snoc_get e, (dn_ba F ne c1 c2 (List.mem_of_getElem? e)).mpr z⟩
  uni := fun s t i j h ⟨q1, e1, z1⟩ ⟨q2, e2, z2⟩ => by
    rcases get_snoc e1 with ⟨f1, m1⟩ | ⟨f1, rfl⟩ <;> rcases get_snoc e2 with ⟨f2, m2⟩ | ⟨f2, k2⟩
    · rcases g1_cases h with c | ⟨c1, c2⟩ | ⟨c1, c2⟩
      · exact F.uni s t i j c ⟨q1, f1, (dn_same F c f1 m1).mp z1⟩ ⟨q2, f2, (dn_same F c f2 m2).mp z2⟩
      · exact F.uni p.y t i j c2.symm ⟨q1, f1, (dn_ab F ne c1 c2 m1).mp z1⟩ ⟨q2, f2, (dn_ab F ne c1 c2 m2).mp z2⟩
      · exact F.uni p.x t i j c2.symm ⟨q1, f1, (dn_ba F ne c1 c2 m1).mp z1⟩ ⟨q2, f2, (dn_ba F ne c1 c2 m2).mp z2⟩
    · subst k2; exact (dn_new_old F ne hl h m1 z2 z1).elim
    · exact (dn_new_old F ne hl h m2 z1 z2).elim
    · rw [f1, f2]
  side := fun i j q1 q2 nij e1 e2 h => by
    rcases get_snoc e1 with ⟨f1, m1⟩ | ⟨f1, k1⟩ <;> rcases get_snoc e2 with ⟨f2, m2⟩ | ⟨f2, k2⟩
    · have n1 := F.ends q1 m1
      have n2 := F.ends q2 m2
      rcases g1_cases h with c | ⟨c1, c2⟩ | ⟨c1, c2⟩
      · rw [d1_same c, d1_same (n1.symm.trans c), d1_same (c.trans n2), d1_same (n1.symm.trans (c.trans n2))]
        exact F.side i j q1 q2 nij f1 f2 c
      · rw [d1_ab ne c1 c2, d1_ab ne (n1.symm.trans c1) c2, d1_ab ne c1 (n2.symm.trans c2), d1_ab ne (n1.symm.trans c1) (n2.symm.trans c2)]; omega
      · rw [d1_ba ne c1 c2, d1_ba ne (n1.symm.trans c1) c2, d1_ba ne c1 (n2.symm.trans c2), d1_ba ne (n1.symm.trans c1) (n2.symm.trans c2)]; omega
    · subst k2
      have n1 := F.ends q1 m1
      rcases g1_cases h with c | ⟨c1, c2⟩ | ⟨c1, c2⟩
      · rw [d1_same c, d1_same (n1.symm.trans c), d1_ab ne c rfl, d1_ab ne (n1.symm.trans c) rfl]; omega
      · exact absurd c2 ne
      · rw [d1_ba ne c1 rfl, d1_ba ne (n1.symm.trans c1) rfl, d1_same c1, d1_same (n1.symm.trans c1), F.zero]; omega
    · subst k1
      have n2 := F.ends q2 m2
      rcases g1_cases h with c | ⟨c1, c2⟩ | ⟨c1, c2⟩
      · rw [d1_same c, d1_same (c.trans n2), d1_ba ne rfl c.symm, d1_ba ne rfl (n2.symm.trans c.symm), F.zero]; omega
      · rw [d1_ab ne rfl c2, d1_ab ne rfl (n2.symm.trans c2), d1_same c2.symm, d1_same (c2.symm.trans n2), F.zero]; omega
      · exact absurd c1 ne
    · exact absurd (f1.trans f2.symm) nij
end
/-! all pipes of a house, one behind another -/
theorem FM.all {n : Int} (n0 : 0 ≤ n) : ∀ (qs ps : List Pi) (gl : List Int) (g : Int → Int) (d : Int → Int → Int), FM ps g d → gl.length = n.toNat → (∀ r, 0 ≤ r → r < n → g r = grp gl r.toNat) →
    (∀ p ∈ qs, 0 ≤ p.x ∧ p.x < n ∧ 0 ≤ p.y ∧ p.y < n ∧ 1 ≤ p.l) → joins gl (edges qs) = true → ∃ g' d', FM (ps ++ qs) g' d'
  | [], ps, gl, g, d, F, _, _, _, _ => ⟨g, d, by rw [List.append_nil]; exact F⟩
  | p :: qs, ps, gl, g, d, F, hl, hg, ok, hj => by
    obtain ⟨a1, a2, a3, a4, a5⟩ := ok p List.mem_cons_self
    have hj' : (if grp gl p.x.toNat = grp gl p.y.toNat then false else joins (Rw.step gl (p.x.toNat, p.y.toNat)) (edges qs)) = true := hj
    split at hj'
    · cases hj'
    · rename_i ne
      have ne' : g p.x ≠ g p.y := by rw [hg _ a1 a2, hg _ a3 a4]; exact ne
      obtain ⟨g', d', F'⟩ := FM.all n0 qs (ps ++ [p]) (Rw.step gl (p.x.toNat, p.y.toNat)) (g1 g p) (d1 g d p) (F.snoc ne' a5) (by unfold Rw.step; rw [merge_len]; exact hl) (fun r r0 r1 => by
        unfold Rw.step g1
        rw [merge_grp (by omega), hg _ r0 r1, hg _ a1 a2, hg _ a3 a4]) (fun q m => ok q (List.mem_cons_of_mem _ m)) hj'
      exact ⟨g', d', by rw [List.append_assoc] at F'; exact F'⟩
/-! ### the rooms' distances of a house -/
structure Tm (n : Int) (ps : List Pi) (d : Int → Int → Int) : Prop where
  ok : ∀ p ∈ ps, 0 ≤ p.x ∧ p.x < n ∧ 0 ≤ p.y ∧ p.y < n ∧ 1 ≤ p.l
  zero : ∀ s, d s s = 0
  sym : ∀ s t, d s t = d t s
  pos : ∀ s t, 0 ≤ s → s < n → 0 ≤ t → t < n → s ≠ t → 0 < d s t
  step : ∀ p ∈ ps, ∀ s, 0 ≤ s → s < n → d s p.x = d s p.y + p.l ∨ d s p.y = d s p.x + p.l
  par : ∀ s t, 0 ≤ s → s < n → 0 ≤ t → t < n → s ≠ t → ∃ i, Dn ps d s t i
  uni : ∀ s t i j, 0 ≤ s → s < n → 0 ≤ t → t < n → Dn ps d s t i → Dn ps d s t j → i = j
  side : ∀ (i j : Nat) (p q : Pi), i ≠ j → ps[i]? = some p → ps[j]? = some q → d p.x q.x - d p.y q.x = d p.x q.y - d p.y q.y
theorem tree {n : Int} {ps : List Pi} (n0 : 1 ≤ n) (ln : (ps.length : Int) = n - 1) (ok : ∀ p ∈ ps, 0 ≤ p.x ∧ p.x < n ∧ 0 ≤ p.y ∧ p.y < n ∧ 1 ≤ p.l) (con : Con n.toNat (edges ps)) : ∃ d, Tm n ps d := by
  have hE : ∀ e ∈ edges ps, e.1 < n.toNat ∧ e.2 < n.toNat := by
    intro e he
    obtain ⟨p, m, rfl⟩ := List.mem_map.mp he
    obtain ⟨a1, a2, a3, a4, _⟩ := ok p m
    exact ⟨by show p.x.toNat < n.toNat; omega, by show p.y.toNat < n.toNat; omega⟩
  have hj := (joins_iff (by omega) hE (by unfold edges; rw [List.length_map]; omega)).mpr con
  obtain ⟨g, d, F⟩ := FM.all (n := n) (by omega) ps [] (start n.toNat) id _ FM.empty (by unfold start; rw [List.length_map, List.length_range]) (fun r r0 r1 => by
    unfold grp start
    rw [List.getD_eq_getElem?_getD, List.getElem?_map, List.getElem?_range (by omega)]
    show r = ((r.toNat : Nat) : Int)
    omega) ok hj
  rw [List.nil_append] at F
  have all : ∀ r, 0 ≤ r → r < n → g r = g 0 := by
    intro r r0 r1
    have := con (fun a => decide (g (a : Int) = g 0)) (fun e he => by
      obtain ⟨p, m, rfl⟩ := List.mem_map.mp he
      obtain ⟨a1, a2, a3, a4, _⟩ := ok p m
      show decide (g ((p.x.toNat : Nat) : Int) = g 0) = decide (g ((p.y.toNat : Nat) : Int) = g 0)
      rw [show ((p.x.toNat : Nat) : Int) = p.x by omega, show ((p.y.toNat : Nat) : Int) = p.y by omega, F.ends p m]) r.toNat (by omega)
    have h2 : decide (g ((r.toNat : Nat) : Int) = g 0) = decide (g ((0 : Nat) : Int) = g 0) := this
    rw [show ((r.toNat : Nat) : Int) = r by omega, show ((0 : Nat) : Int) = 0 from rfl, decide_eq_true (rfl : g 0 = g 0)] at h2
    exact of_decide_eq_true h2
  have two : ∀ s t, 0 ≤ s → s < n → 0 ≤ t → t < n → g s = g t := fun s t a b c e => (all s a b).trans (all t c e).symm
  have inx : ∀ p ∈ ps, g p.x = g 0 := fun p m => all _ (ok p m).1 (ok p m).2.1
  exact ⟨d, ok, F.zero, F.sym, fun s t a b c e => F.pos s t (two s t a b c e), fun p m s a b => F.step p m s ((all s a b).trans (inx p m).symm), fun s t a b c e => F.par s t (two s t a b c e), fun s t i j a b c e => F.uni s t i j (two s t a b c e),
    fun i j p q nij e1 e2 => F.side i j p q nij e1 e2 ((inx p (List.mem_of_getElem? e1)).trans (inx q (List.mem_of_getElem? e2)).symm)⟩
theorem Tm.nn {n : Int} {ps : List Pi} {d : Int → Int → Int} (T : Tm n ps d) {s t : Int} (a : 0 ≤ s) (b : s < n) (c : 0 ≤ t) (e : t < n) : 0 ≤ d s t := by
  by_cases h : s = t
  · subst h; rw [T.zero]; exact Int.le_refl 0
  · have := T.pos s t a b c e h; omega
end Rw

namespace Rw
open PySem PySem.Spec PyProof.Rows L2
def Pi.dat (p : Pi) : PyData := pipeD p.x p.y p.l p.na p.fl
structure Pi.ok (n : Int) (p : Pi) : Prop where
  x0 : 0 ≤ p.x
  x1 : p.x ≤ n - 1
  y0 : 0 ≤ p.y
  y1 : p.y ≤ n - 1
  xy : p.x < p.y
  fit : Fit p.l p.na p.fl
theorem ins_perm {α : Type} (xs : List α) (k : Nat) (y : α) : (xs.take k ++ [y] ++ xs.drop k).Perm (y :: xs) := by
  rw [List.append_assoc]
  refine List.perm_middle.trans ?_
  show (y :: (xs.take k ++ xs.drop k)).Perm (y :: xs)
  rw [List.take_append_drop]
theorem ins_sum {α : Type} (f : α → Nat) (xs : List α) (k : Nat) (y : α) : ((xs.take k ++ [y] ++ xs.drop k).map f).sum = f y + (xs.map f).sum := by
  have e : (xs.map f).sum = ((xs.take k).map f).sum + ((xs.drop k).map f).sum := by
    rw [← List.sum_append, ← List.map_append, List.take_append_drop]
  rw [List.map_append, List.map_append, List.sum_append, List.sum_append, e]
  simp only [List.map_cons, List.map_nil, List.sum_cons, List.sum_nil]
  omega
theorem start_succ (i : Nat) : (start (i + 1)).Perm ((i : Int) :: start i) := by
  unfold start
  rw [List.range_succ, List.map_append]
  exact List.perm_append_comm
theorem start_mem {n : Nat} {v : Int} : v ∈ start n ↔ 0 ≤ v ∧ v < n := by
  unfold start
  rw [List.mem_map]
  constructor
  · rintro ⟨a, ha, rfl⟩
    have := List.mem_range.mp ha
    exact ⟨Int.natCast_nonneg a, Int.ofNat_lt.mpr this⟩
  · rintro ⟨h0, h1⟩
    exact ⟨v.toNat, List.mem_range.mpr (by omega), by show ((v.toNat : Nat) : Int) = v; omega⟩
theorem start_nodup (n : Nat) : (start n).Nodup := by
  unfold start
  exact List.Pairwise.map _ (fun a b h q => h (Int.ofNat.inj q)) List.nodup_range
theorem perm2 {a b : Int} {ns : List Int} (h : ns.Perm [a, b]) : ns = [a, b] ∨ ns = [b, a] := by
  have hl : ns.length = 2 := h.length_eq
  match ns, hl with
  | [u, v], _ =>
    have hu : u = a ∨ u = b := by simpa using h.mem_iff.mp (List.mem_cons_self (a := u) (l := [v]))
    rcases hu with rfl | rfl
    · have := (List.perm_cons u).mp h
      have e := List.perm_singleton.mp this
      left; rw [e]
    · have h2 : [u, v].Perm [u, a] := h.trans (List.Perm.swap u a [])
      have := (List.perm_cons u).mp h2
      have e := List.perm_singleton.mp this
      right; rw [e]
end Rw

namespace Rw
open PySem PySem.Spec PyProof.Rows L2
/-! ### enumerate(t) of a tuple -/
theorem enumNew {v : Value} {o : Obj} {G : Heap → Prop} (B : Begins v o G) : Meets (Builtin.«enumerate.__new__» ⟨[.type "enumerate", v], []⟩) (fun _ R s => G s.heap ∧ R (.ok (.ret (.ref (s.heap.push o).objs.size)))
    { s with heap := (s.heap.push o).push { cls := .type "enumerate", data := .fields #[.none, .bool false, .ref s.heap.objs.size, rawInt 0, .none, .none] } }) :=
  .of_wp fun prog w A R s h => by
    obtain ⟨hp, g, d, tk, os⟩ := s
    obtain ⟨gh, rest⟩ := h
    have sub0 := sub_enumerate
    have it1 : ∀ {A' : Around} {E : Value → Shared → Prop} {Q : Value → Shared → Prop}, Q (.ref hp.objs.size) ⟨hp.push o, g, d, tk, os⟩ → wpAny (model prog w) A' (pyIter v) Q E ⟨hp, g, d, tk, os⟩ := fun q => B.iter prog w _ _ ⟨hp, g, d, tk, os⟩ _ gh q
    wp_walk using it1
    refine wpAny_stack_any (fun z => wpAny_pure ?_)
    split
    · rename_i cc _ _ _ _ _
      cases (cc == Value.type "enumerate") <;> (wp_walk using it1; exact ⟨_, rfl, rest⟩)
    · wp_walk using it1
      exact ⟨_, rfl, rest⟩
theorem enumCall {prog : Program} {w : World} {A : Around} {E : Value → Shared → Prop} {s : Shared} {v : Value} {o : Obj} {G : Heap → Prop} {Q : Value → Shared → Prop} (B : Begins v o G) (hg : G s.heap)
    (h : ∀ h', IsEnum h' (s.heap.objs.size + 1) s.heap.objs.size 0 .none → h'.get? s.heap.objs.size = some o → h'.objs.size = s.heap.objs.size + 2 → (∀ b o, s.heap.get? b = some o → h'.get? b = some o) → Q (.ref (s.heap.objs.size + 1)) { s with heap := h' }) :
    wpAny (model prog w) A (call (.type "enumerate") [v]) Q E s := by
  refine callType_new F.called_enumerate (by decide) (F.typeCall_enumerate_1 _) (F.newCall_enumerate_1 _) (fun obj => F.args_object_init_2 obj _) F.entry_enumerate_new (enumNew B) ⟨hg, ?_⟩
  have z : (s.heap.push o).objs.size = s.heap.objs.size + 1 := Heap.size_push ..
  show _ ∧ _
  rw [z]
  have e : IsEnum ((s.heap.push o).push { cls := .type "enumerate", data := .fields #[.none, .bool false, .ref s.heap.objs.size, rawInt 0, .none, .none] }) (s.heap.objs.size + 1) s.heap.objs.size 0 .none := by
    have y := Heap.get?_push_size (s.heap.push o) (o := { cls := .type "enumerate", data := .fields #[.none, .bool false, .ref s.heap.objs.size, rawInt 0, .none, .none] }) rfl
    rw [z] at y
    exact y
  exact ⟨⟨_, e, rfl⟩, h _ e (Heap.get?_push_of_some _ (Heap.get?_push_size _ B.free)) (by rw [Heap.size_push, z]) (fun b o x => Heap.get?_push_of_some _ (Heap.get?_push_of_some _ x))⟩
/-- the tuple at a, each item in a new pair -/
def IteT (K : PySem.W.Frag) (a : Addr) : It :=
  ⟨fun i H => ∃ (xs : List V) (x : V), SqT K H a xs ∧ xs[i]? = some x, fun i H v H' => ∃ T x, v = .ref T ∧ H T = none ∧ H' = upd H T (.tup [.int (i : Nat), x]) ∧ ∀ xs, SqT K H a xs → xs[i]? = some x, fun i H => ∃ xs : List V, SqT K H a xs ∧ xs.length ≤ i⟩
theorem turn_enumT {P : Program} {w : World} {K : PySem.W.Frag} {elts : List Expr} {kk : Nat} {tpos : Pos} (a e it : Addr) :
    Turn P w K (.Tuple elts kk tpos) (IteT K a) [e, it] e (fun i h => (∃ old, IsEnum h e it ((i : Nat) : Int) old) ∧ h.IsTupleIter it a i ∧ e ≠ it ∧ a ≠ it ∧ a ≠ e) where
  mem := by simp
  obj := fun i h st b hb => by
    obtain ⟨⟨old, he⟩, ⟨o, ho, oc, od⟩, _⟩ := st
    rcases (show b = e ∨ b = it by simpa using hb) with rfl | rfl
    · exact ⟨_, he, fun v q => nomatch q⟩
    · exact ⟨o, ho, fun v q => by rw [od] at q; cases q⟩
  keep := fun i h h' st k => let ⟨⟨old, he⟩, hi, r⟩ := st; ⟨⟨old, k e (by simp) _ he⟩, hi.at fun o q => k it (by simp) o q, r⟩
  item := by
    intro X hP hw hK hc i pins s σ H E I hf st hg
    subst hP hw hK
    obtain ⟨⟨old, he⟩, hit, nei, nai, nae⟩ := st
    obtain ⟨xs, x, sq, gx⟩ := hg
    obtain ⟨its, rv, tp, _⟩ := I.tuple sq
    obtain ⟨u, gu, ru⟩ := rv.get gx
    have eb : e < s.heap.objs.size := Heap.lt_size he
    have ib : it < s.heap.objs.size := by obtain ⟨_, q, _⟩ := hit; exact Heap.lt_size q
    have ub : i < its.toArray.size := by simpa using (List.getElem?_eq_some_iff.mp gu).1
    refine wpAny_pyNext_enum_itemD (Draws.tuple (A := X.A.in1) (I.ok.hd hc) it a nai its.toArray) he ⟨hit, tp⟩ ub nei (by simp [nei, nae.symm]) (fun y h' tk gy ho st' hT hsz hk => ?_)
    have ey : y = u := by
      have z : its[i]? = some y := by simpa using gy
      rw [gu] at z; cases z; rfl
    subst ey
    refine ⟨_, rfl, wpAny_letOwnedTupleGo_enum (s := { s with heap := h', toks := tk + 1 }) ho fun h2 he2 sb => ?_⟩
    have hT2 : h2.get? s.heap.objs.size = some { cls := .type "tuple", data := .seq #[.int i tk, y] } := (sb.2 _ (Nat.ne_of_gt eb)).trans hT
    have ob : ObjOk X.prog X.w (upd H s.heap.objs.size (.tup [.int (i : Nat), x])) h2 s.heap.objs.size (.tup [.int (i : Nat), x]) := ⟨by show 2 ≤ sizeLine; decide, [.int i tk, y], .cons ⟨_, rfl⟩ (.cons ru .nil), ⟨_, hT2, rfl, _, rfl⟩⟩
    have J : Inv X pins σ (upd H s.heap.objs.size (.tup [.int (i : Nat), x])) { s with heap := h2, toks := tk + 1 } :=
      I.turnedNew (ch := [e, it]) (fun b q hb z => (sb.2 b (fun w => hb (by simp [w]))).trans (hk b q (fun w => hb (by simp [w])) (fun w => hb (by simp [w])) z)) hf (Nat.le_refl _) ob
    refine ⟨.ref s.heap.objs.size, _, J, rfl, ⟨_, x, rfl, I.hok.fresh (Nat.le_refl _), rfl, fun ys hy => by rw [I.tuple_inj hy sq]; exact gx⟩, ⟨⟨y, ?_⟩, st'.1.at fun o q => (sb.2 it nei.symm).trans q, nei, nai, nae⟩, fun b hb => ?_⟩
    · rw [show ((i + 1 : Nat) : Int) = (i : Int) + 1 by omega]; exact he2
    · have b1 : b < s.heap.objs.size := by
        rcases (show b = e ∨ b = it by simpa using hb) with rfl | rfl
        · exact eb
        · exact ib
      rw [upd_ne (Nat.ne_of_lt b1)]
      exact (hf b hb).1
  done := by
    intro X hP hw hK hc i pins s σ H E I hf st hg
    subst hP hw hK
    obtain ⟨⟨old, he⟩, hit, nei, nai, nae⟩ := st
    obtain ⟨xs, sq, lx⟩ := hg
    obtain ⟨its, rv, tp, _⟩ := I.tuple sq
    obtain ⟨f0, f1, f2, f3, f4, f5⟩ := hf it (by simp)
    have ln := rv.length
    have D := Draws.tuple (prog := X.prog) (w := X.w) (A := X.A.in1) (I.ok.hd hc) it a nai its.toArray
    unfold pyNext
    refine wpAny_bind (wpAny_attempt (wpAny_callSpecial?_slot (name := Str.ofString "__next__") (s := s) (⟨_, he, rfl⟩ : s.TypeIs (.ref e) "enumerate") F.slot_enumerate_next (wpAny_call_entry F.slot_enumerate_next ⟨_, he, rfl⟩ F.entry_enumerate_next ?_ (F.args_enumerate_next_1 _))))
    show wpAny _ _ (field (.ref e) 2 >>= _) _ _ _
    refine wpAny_bind (wpAny_field he rfl (x := .ref it) rfl (wpAny_bind (wpAny_nextOf_tuple_end (I.ok.hd hc) hit tp (by simp; omega) fun h' x eb ⟨o, ho, oc⟩ => ?_)))
    refine wpAny_bind (wpAny_isInstance (T := "StopIteration") (b := true) ⟨o, ho, oc⟩ isSubtype_stop (wpAny_pure ⟨rfl, ?_⟩))
    exact I.turned (t' := s.toks) (fun b o hb q => eb b o hb q) f0 f1 f3 f4 f5
  self := fun A i s Q E st h => let ⟨⟨_, he⟩, _⟩ := st; wpAny_pyIter_enum he h
def iEnumT (K : PySem.W.Frag) (ta : TA) : TI := fun σ H R => ta σ H fun vs H1 => ∃ a xs, vs = [.ref a] ∧ SqT K H1 a xs ∧ R (IteT K a) H1
theorem pi_enumT {X : Cx} {e : Expr} {ta : TA} {p pos tpos : Pos} {elts : List Expr} {kk : Nat} (hg : Gl X "enumerate") (hm : X.mg "enumerate" = none) (ha : PA X [e] ta) (hs : starEach [e] X.env = [(false, eval e X.env)] := by rfl) :
    PI X (.Tuple elts kk tpos) (.Call (.Name "enumerate" p) [e] [] pos) (iEnumT X.K ta) := by
  refine ⟨fun pins s σ H R I h => Call_ (ld_blt I hg hm boot_enumerate (PyProof.Rows.callWith_type1 (thn (ha.run pos pins s σ H _ I h) fun us s1 ⟨vs, H1, I1, r1, q1⟩ => ?_) hs rfl))⟩
  obtain ⟨a, xs, rfl, sq, q⟩ := q1
  cases r1 with
  | cons r rr =>
    cases rr
    cases r
    obtain ⟨its, rv, tp, _⟩ := I1.tuple sq
    have al : a < s1.heap.objs.size := by obtain ⟨_, z, _⟩ := (id tp : Heap.IsTuple _ _ _); exact Heap.lt_size z
    refine enumCall (begins_tuple a its.toArray) tp (fun h' he hit hsz hk => wpAny_pyIter_enum he ?_)
    refine ⟨s1.heap.objs.size + 1, [s1.heap.objs.size + 1, s1.heap.objs.size], _, _, H1, rfl, I1.kept (t' := s1.toks) hk, turn_enumT a (s1.heap.objs.size + 1) s1.heap.objs.size, ⟨⟨.none, he⟩, ⟨_, hit, rfl, rfl⟩, Nat.succ_ne_self _, Nat.ne_of_lt al, Nat.ne_of_lt (Nat.lt_succ_of_lt al)⟩, fun b hb => ?_, q⟩
    have le : s1.heap.objs.size ≤ b := by
      rcases (show b = s1.heap.objs.size + 1 ∨ b = s1.heap.objs.size by simpa using hb) with z | z <;> rw [z]
      · exact Nat.le_add_right _ _
      · exact Nat.le_refl _
    exact I1.fpOk le (I1.hok.fresh le)
end Rw

namespace Rw
open PySem PySem.Spec PyProof.Rows L2
/-! ### min of a list of tuples of ints -/
def tupI (ns : List Int) : PyData := .tuple (ns.map .int)
def minL (ns : List Int) (nss : List (List Int)) : List Int := nss.foldl (fun a y => if PySem.W.listLt y a = true then y else a) ns
theorem tupI_toD (ns : List Int) : tupI ns = PySem.W.Datum.toD (⟨ns⟩ : PySem.W.Tup Int) := by
  show PyData.tuple (ns.map .int) = PyData.tuple (ns.map PySem.W.Datum.toD)
  rfl
theorem minL_fold (ns : List Int) : ∀ nss : List (List Int), (nss.map fun x => (⟨x⟩ : PySem.W.Tup Int)).foldl (fun a y => if PySem.W.listLt y.items a.items = true then y else a) ⟨ns⟩ = (⟨minL ns nss⟩ : PySem.W.Tup Int) := by
  intro nss
  unfold minL
  induction nss generalizing ns with
  | nil => rfl
  | cons y r ih =>
    rw [List.map_cons, List.foldl_cons, List.foldl_cons]
    by_cases h : PySem.W.listLt y ns = true
    · rw [if_pos h, if_pos h]; exact ih y
    · rw [if_neg h, if_neg h]; exact ih ns
theorem minD_minL (ns : List Int) (nss : List (List Int)) : PySem.W.minD (tupI ns) (nss.map tupI) = tupI (minL ns nss) := by
  have e : nss.map tupI = (nss.map fun x => (⟨x⟩ : PySem.W.Tup Int)).map PySem.W.Datum.toD := by
    rw [List.map_map]; exact List.map_congr_left fun x _ => tupI_toD x
  rw [tupI_toD, e, PySem.W.minD_map, tupI_toD]
  exact congrArg PySem.W.Datum.toD (minL_fold ns nss)
theorem minL_mem (ns : List Int) : ∀ nss : List (List Int), minL ns nss ∈ ns :: nss := by
  intro nss
  unfold minL
  induction nss generalizing ns with
  | nil => exact List.mem_cons_self
  | cons y r ih =>
    rw [List.foldl_cons]
    by_cases h : PySem.W.listLt y ns = true
    · rw [if_pos h]; exact List.mem_cons_of_mem _ (ih y)
    · rw [if_neg h]
      rcases List.mem_cons.mp (ih ns) with e | e
      · rw [e]; exact List.mem_cons_self
      · exact List.mem_cons_of_mem _ (List.mem_cons_of_mem _ e)
theorem lt_head {a b : Int} {x y : List Int} : (PySem.W.listLt (a :: x) (b :: y) = true → a ≤ b) ∧ (¬ PySem.W.listLt (a :: x) (b :: y) = true → b ≤ a) := by
  have u : PySem.W.listLt (a :: x) (b :: y) = if a = b then PySem.W.listLt x y else PySem.W.DatumOrd.lt a b := rfl
  have v : PySem.W.DatumOrd.lt a b = decide (a < b) := rfl
  rw [u, v]
  by_cases h : a = b
  · rw [if_pos h]; exact ⟨fun _ => by omega, fun _ => by omega⟩
  · rw [if_neg h]; exact ⟨fun z => by have := of_decide_eq_true z; omega, fun z => by have := of_decide_eq_false (Bool.eq_false_iff.mpr z); omega⟩
theorem minL_head : ∀ (nss : List (List Int)) (ns : List Int), (∀ y ∈ ns :: nss, y ≠ []) → ∀ y ∈ ns :: nss, (minL ns nss).headD 0 ≤ y.headD 0 := by
  intro nss
  unfold minL
  induction nss with
  | nil => intro ns _ y hy; rw [List.mem_singleton.mp hy]; exact Int.le_refl _
  | cons z r ih =>
    intro ns hn y hy
    rw [List.foldl_cons]
    have n1 := hn ns List.mem_cons_self
    have n2 := hn z (List.mem_cons_of_mem _ List.mem_cons_self)
    have hr : ∀ q ∈ r, q ≠ [] := fun q m => hn q (List.mem_cons_of_mem _ (List.mem_cons_of_mem _ m))
    obtain ⟨a, x, rfl⟩ := List.exists_cons_of_ne_nil n1
    obtain ⟨b, w, rfl⟩ := List.exists_cons_of_ne_nil n2
    by_cases h : PySem.W.listLt (b :: w) (a :: x) = true
    · rw [if_pos h]
      have k := ih (b :: w) (fun q m => (List.mem_cons.mp m).elim (fun e => by rw [e]; exact n2) (hr q))
      rcases List.mem_cons.mp hy with rfl | hy
      · exact Int.le_trans (k _ List.mem_cons_self) (lt_head.1 h)
      · exact k y hy
    · rw [if_neg h]
      have k := ih (a :: x) (fun q m => (List.mem_cons.mp m).elim (fun e => by rw [e]; exact n1) (hr q))
      rcases List.mem_cons.mp hy with rfl | hy
      · exact k _ List.mem_cons_self
      · rcases List.mem_cons.mp hy with rfl | hy
        · exact Int.le_trans (k _ List.mem_cons_self) (lt_head.2 h)
        · exact k y (List.mem_cons_of_mem _ hy)
theorem tupI_lay : ∀ ns : List Int, PyData.canLayAll0 (ns.map .int) = true
  | [] => by simp [PyData.canLayAll0]
  | n :: ns => by rw [List.map_cons]; simp only [PyData.canLayAll0, PyData.canLay0, tupI_lay ns, Bool.and_true]
theorem tupI_depths : ∀ ns : List Int, PyData.depthAll (ns.map .int) = 0
  | [] => by simp [PyData.depthAll]
  | n :: ns => by rw [List.map_cons]; simp [PyData.depthAll, PyData.depth, tupI_depths ns]
theorem tupI_depth : ∀ nss : List (List Int), PyData.depthAll (nss.map tupI) ≤ 1
  | [] => by simp [PyData.depthAll]
  | n :: ns => by
    have := tupI_depth ns
    rw [List.map_cons]
    show max (PyData.depth (.tuple (n.map .int))) (PyData.depthAll (ns.map tupI)) ≤ 1
    have e : PyData.depth (.tuple (n.map .int)) ≤ 1 := by simp [PyData.depth, tupI_depths n]
    omega
theorem tupI_alike (nss : List (List Int)) : PySem.W.AlikeAll (nss.map tupI) := by
  refine ⟨fun x hx y hy => ?_, fun x hx e => ?_⟩
  · obtain ⟨a, _, rfl⟩ := List.mem_map.mp hx
    obtain ⟨b, _, rfl⟩ := List.mem_map.mp hy
    rw [tupI_toD, tupI_toD]
    exact PySem.W.DatumOrd.alike _ _
  · obtain ⟨a, _, rfl⟩ := List.mem_map.mp hx
    cases e
def rMinT (K : PySem.W.Frag) : List V → Hp → VK → Prop := fun vs H Q => ∃ (a : Addr) (xs : List V) (ns : List Int) (nss : List (List Int)), vs = [.ref a] ∧ SqL K H a xs ∧ DpAll K H xs ((ns :: nss).map tupI) ∧
  ∀ (i : Nat) (v : V), xs[i]? = some v → (ns :: nss)[i]? = some (minL ns nss) → Q v H
theorem tupI_inj {a b : List Int} (h : tupI a = tupI b) : a = b := by
  have h2 : a.map PyData.int = b.map PyData.int := PyData.tuple.inj h
  have f : ∀ l : List Int, (l.map PyData.int).map (fun d => match d with | .int i => i | _ => 0) = l := fun l => by
    rw [List.map_map]; exact (List.map_congr_left fun _ _ => rfl).trans (List.map_id l)
  rw [← f a, ← f b, h2]
theorem reads_all_at {h : Heap} : ∀ {vs : List Value} {xs : List PyData} {as : List Addr}, ReadsAll h vs xs as → ∀ (i : Nat) (v : Value), vs[i]? = some v → ∃ d bs, xs[i]? = some d ∧ Reads h v d bs
  | _, _, _, .nil, i, v, e => by simp at e
  | _, _, _, .cons r rs, 0, v, e => by simp at e; subst e; exact ⟨_, _, rfl, r⟩
  | _, _, _, .cons r rs, i + 1, v, e => by
    obtain ⟨d, bs, h1, h2⟩ := reads_all_at rs i v (by simpa using e)
    exact ⟨d, bs, by simpa using h1, h2⟩
theorem vals_at : ∀ {xs : List V} {us : List Value}, Vals xs us → ∀ (i : Nat) (u : Value), us[i]? = some u → ∃ x, xs[i]? = some x ∧ RelV x u
  | _, _, .nil, i, u, e => by simp at e
  | _, _, .cons r rs, 0, u, e => by simp at e; subst e; exact ⟨_, rfl, r⟩
  | _, _, .cons r rs, i + 1, u, e => by
    obtain ⟨x, h1, h2⟩ := vals_at rs i u (by simpa using e)
    exact ⟨x, by simpa using h1, h2⟩
theorem cr_minT {X : Cx} (hc : X.calm = true) (hu : X.A.units + 10 < cLine) : CallR X (.builtin "min") (rMinT X.K) := by
  intro pins s σ H vs us Q I r h
  obtain ⟨a, xs, ns, nss, rfl, sq, dp, q⟩ := h
  obtain ⟨its, rv, hl, _⟩ := I.list sq
  rw [Vals.ref1 r]
  obtain ⟨as, rd⟩ := Dp.readsAll I _ _ its dp rv
  have dd := tupI_depth (ns :: nss)
  have al := tupI_alike (ns :: nss)
  rw [List.map_cons] at rd dd al
  refine PySem.W.min_list_data (I.ok.hd hc) hl.isList (x := tupI ns) (xs := nss.map tupI) (as := as) rd al (by omega) (fun i v h' tk bs gi rv' kp => ?_)
  rw [minD_minL] at rv'
  have gi' : its[i]? = some v := by simpa using gi
  obtain ⟨x, gx, rx⟩ := vals_at rv i v gi'
  obtain ⟨d, cs, gd, rdd⟩ := reads_all_at rd i v gi'
  have rdd' : Reads h' v d cs := PySem.W.reads_keeps kp rdd
  obtain ⟨m, gm, em⟩ : ∃ m, (ns :: nss)[i]? = some m ∧ d = tupI m := by
    have z : ((ns :: nss).map tupI)[i]? = some d := by rw [List.map_cons]; exact gd
    rw [List.getElem?_map] at z
    obtain ⟨m, z1, z2⟩ := Option.map_eq_some_iff.mp z
    exact ⟨m, z1, z2.symm⟩
  have e : tupI (minL ns nss) = d := (rv'.unique _ _ rdd').1
  rw [em] at e
  have e2 := tupI_inj e
  exact ⟨x, H, I.kept (t' := tk) kp, rx, q i x gx (by rw [gm, e2])⟩
end Rw

namespace Rw
open PySem PySem.Spec PyProof.Rows L2
/-! rules that name the written part by a letter (within comprehensions) -/
section
variable {X : Cx} {K : PySem.W.Frag}
theorem ix_tupK (h : X.K = K) : IxR X (rIxT K) := by subst h; exact ix_tup
theorem sl_tupK (h : X.K = K) : SlR X (rSlT K) := by subst h; exact sl_tup
theorem sl_listK (h : X.K = K) : SlR X (rSlL K) := by subst h; exact sl_list
theorem pg_tupK {es : List Expr} {k n : Nat} {t : TGs} {pos : Pos} (h : X.K = K) (hc : X.calm = true) (hg : PGs X es t) (hn : (assignEach es X.env).length = n := by rfl) (hst : (assignEach es X.env).findIdx? (·.1) = none := by rfl) : PG X (.Tuple es k pos) (gTup K n t) := by
  subst h; exact pg_tup hc hg hn hst
theorem pi_listK {tg l : Expr} {tl : TE} (h : X.K = K) (hl : PE X l tl) : PI X tg l (iList K tl) := by subst h; exact pi_list hl
theorem pi_tupK {tg l : Expr} {tl : TE} (h : X.K = K) (hl : PE X l tl) : PI X tg l (iTup K tl) := by subst h; exact pi_tup hl
theorem pe_fldK {e : Expr} {f : Str} {ta : TE} {pos : Pos} (h : X.K = K) (he : PE X e ta) (hb : attributeBase e f X.env (eval e X.env) = eval e X.env) : PE X (.Attribute e f pos) (tFld K ta f) := by subst h; exact pe_fld he hb
theorem call_len_seqK (h : X.K = K) : CallR X (.builtin "len") (fun xs H Q => ∃ p ys, xs = [.ref p] ∧ (SqL K H p ys ∨ SqT K H p ys) ∧ Q (.int ys.length) H) := by subst h; exact call_len_seq
end
end Rw

namespace Rw
open PySem PySem.Spec PyProof.Rows L2
/-! ### {t: v}, the key a tuple -/
def tDispT (trs : List (TE × TE)) : TE := fun σ H Q => ∀ p, H p = none → tPairs trs σ (upd H p (.dT [])) fun ps H2 => H2 p = some (.dT []) ∧ ∃ (b : Addr) (k : List Key) (v : V), ps = [(.ref b, v)] ∧ H2 b = some (.tup (k.map kV)) ∧ Q (.ref p) (upd H2 p (.dT [(k, v)]))
theorem pe_dispT {X : Cx} {pos : Pos} {k v : Expr} {trs : List (TE × TE)} (hu : X.A.units + 1 < cLine) (h : PPs X pos [some k] [v] trs) : PE X (.Dict [some k] [v] pos) (tDispT trs) := by
  refine ⟨fun pins s σ H Q I q => ?_⟩
  have nw := I.hok.fresh (Nat.le_refl s.heap.objs.size)
  have I1 := I.laid (a := s.heap.objs.size) (o := .dT []) (h' := s.heap.push { cls := .type "dict", data := .dict #[] }) (t' := s.toks) (fun _ _ z => Heap.get?_push_of_some _ z) (Nat.le_refl _) (dt_empty s.heap I.big)
  have one : (pairTrees [some k] [v] X.env pos).length = 1 := pairTrees_length [some k] [v] X.env pos rfl rfl
  have ne : pairTrees [some k] [v] X.env pos ≠ [] := fun z => by rw [z] at one; cases one
  rw [arm_eval_Dict, zip_pairTrees [some k] [v] X.env pos rfl rfl, dictDisplay_pairs _ ne (by omega)]
  refine wpAny_bind (wpAny_standAt (wpAny_bind (wpAny_subDictH (knd := tupleKind (mixKind X.prog X.w)) (show X.A.units < cLine by omega) (by omega) (thn (h.run pins _ σ _ _ I1 (q _ nw)) fun ws s2 ⟨ps, H2, I2, rel, e, b, kk, y, eps, eb, q2⟩ => ?_))))
  subst eps
  cases rel with
  | @cons p1 w1 _ ws' hp hr =>
    cases hr
    obtain ⟨wk, wv⟩ := w1
    obtain ⟨rk, rv⟩ := hp
    cases (show wk = Value.ref b from rk)
    obtain ⟨z, hd, xs, rx, dd⟩ := dt_of I2.hok e
    cases rx
    refine ⟨[(kk, b, wv)], ⟨rfl, rfl, key_of I2.hok eb, trivial⟩, dd, fun h' tk dd' hs => wpAny_pure ⟨.ref s.heap.objs.size, _, ?_, rfl, q2⟩⟩
    obtain ⟨o, es, ep, ho, h2, h3, h4, _, h5⟩ := dd'
    have ebN : b ≠ s.heap.objs.size := fun c => by
      rw [c] at eb
      rw [eb] at e
      cases e
    refine d_write I2 (by rw [e]; exact True.intro) hs ⟨o, ho⟩ ⟨by show 1 ≤ sizeLine; decide, hd, [(kk, b, wv)], .cons ⟨rfl, by rw [upd_ne ebN]; exact eb, rv⟩ .nil, o, es, ep, ho, h2, h3, h4, h5⟩
end Rw

namespace Rw
open PySem PySem.Spec PyProof.Rows L2
/-! ### sorted of a list of tuples of ints, of any lengths -/
abbrev VI := V × List Int
def encVI (b : VI) : PyData := tupI b.2
def leI (a b : List Int) : Bool := !decide (b < a)
theorem dataLe_VI : PySem.W.dataLe false encVI = fun a b => leI a.2 b.2 := by
  funext a b
  rw [PySem.W.dataLe_eq]
  show (!PySem.W.dataLt (.tuple (b.2.map .int)) (.tuple (a.2.map .int))) = _
  rw [PySem.W.dataLt_tuple]
  unfold leI
  exact congrArg _ (PySem.W.dataLt_ints b.2 a.2)
def sortVI (bs : List VI) : List VI := bs.mergeSort (fun a b => leI a.2 b.2)
theorem each_vals : ∀ {bs : List VI} {us : List Value}, Vals (bs.map (·.1)) us → PySem.W.EachIs (fun u b => RelV b.1 u) us bs
  | [], _, h => by cases h; exact .nil
  | b :: bs, _, h => by
    cases h with
    | cons r t => exact .cons r (each_vals t)
theorem vals_each : ∀ {bs : List VI} {us : List Value}, PySem.W.EachIs (fun u b => RelV b.1 u) us bs → Vals (bs.map (·.1)) us
  | _, _, .nil => .nil
  | _, _, .cons r t => .cons r (vals_each t)
theorem each_reads {h : Heap} : ∀ {bs : List VI} {us : List Value} {as : List Addr}, ReadsAll h us (bs.map encVI) as → PySem.W.EachIs (fun u b => ∃ as, Reads h u (encVI b) as) us bs
  | [], _, _, h => by cases h; exact .nil
  | b :: bs, _, _, h => by
    cases h with
    | cons r t => exact .cons ⟨_, r⟩ (each_reads t)
def rSortVI (K : PySem.W.Frag) : List V → Hp → VK → Prop := fun vs H Q => ∃ (a : Addr) (bs : List VI), vs = [.ref a] ∧ SqL K H a (bs.map (·.1)) ∧ DpAll K H (bs.map (·.1)) (bs.map encVI) ∧ (∀ b ∈ bs, b.2 ≠ []) ∧ bs.length ≤ 1000 ∧
  ∀ p, H p = none → Q (.ref p) (upd H p (.lst ((sortVI bs).map (·.1))))
theorem cr_sortVI {X : Cx} (hu : X.A.units + 10 < cLine) : CallR X (.builtin "sorted") (rSortVI X.K) := by
  intro pins s σ H vs us Q I r h
  obtain ⟨a, bs, rfl, sq, dp, hn, hl, q⟩ := h
  obtain ⟨its, rv, isl, _⟩ := I.list sq
  rw [Vals.ref1 r]
  obtain ⟨as, rd⟩ := Dp.readsAll I _ _ its dp rv
  refine PySem.W.sorted_data (bs := bs) (enc := encVI) (R := fun u b => RelV b.1 u) isl.isList (each_vals rv) (each_reads rd) (PySem.W.AllAlike.of fun b b' => ?_) (.inl fun d hd => ?_) (Nat.le_trans hl (small1000 (by omega))) (fun b hb => ?_) (fun out lo ho => ?_)
  · exact (tupI_alike [b.2, b'.2]).1 _ List.mem_cons_self _ (List.mem_cons_of_mem _ List.mem_cons_self)
  · obtain ⟨b, hb, rfl⟩ := List.mem_map.mp hd
    obtain ⟨x, xs, e⟩ := List.exists_cons_of_ne_nil (hn b hb)
    exact ⟨.int x, xs.map .int, by unfold encVI tupI; rw [e]; rfl⟩
  · have := tupI_depth [b.2]
    have e : PyData.depthAll ([b.2].map tupI) = max (PyData.depth (encVI b)) 0 := rfl
    omega
  · rw [dataLe_VI] at ho
    obtain ⟨ep, he⟩ := PyProof.Rows.sortedAll_at s.heap its out.toArray
    have hv : Vals ((sortVI bs).map (·.1)) out := vals_each ho
    have hlen : ((sortVI bs).map (·.1)).length ≤ sizeLine := by rw [hv.length, lo]; exact Nat.le_trans hl (small1000 (by omega))
    exact ⟨.ref _, upd H (s.heap.objs.size + 1) (.lst ((sortVI bs).map (·.1))), I.laid (t' := s.toks) (fun _ _ => PyProof.Rows.sortedAll_old) (Nat.le_succ _) ⟨hlen, out, ep, hv, by simpa using he⟩, rfl, q _ (I.hok.fresh (Nat.le_succ _))⟩
end Rw

namespace Rw
open PySem PySem.Spec PyProof.Rows L2
section
variable {X : Cx}
/-! new lists stand elsewhere than the modules' table -/
def tLstN (t : TA) : TE := fun σ H Q => t σ H fun xs H1 => xs.length ≤ sizeLine ∧ ∀ p, H1 p = none → p ≠ sysModules → Q (.ref p) (upd H1 p (.lst xs))
theorem pe_lstN {es : List Expr} {t : TA} {pos : Pos} (h : PA X es t) : PE X (.List es pos) (tLstN t) :=
  ⟨fun pins s σ H Q I hq => wpAny_List_spliced (thn (h.run pos pins s σ H _ I hq) fun us s1 ⟨xs, H1, I1, r, z, q⟩ => ⟨by rw [← r.length]; exact z,
    ⟨.ref s1.heap.objs.size, _, I1.laid (t' := s1.toks) (fun b u e => Heap.get?_push_of_some _ e) (Nat.le_refl _) (show ObjOk X.prog X.w _ _ _ (.lst xs) from ⟨z, us, 0, r, Heap.get?_push_size _ rfl⟩), rfl, q _ (I1.hok.fresh (Nat.le_refl _)) (Nat.ne_of_gt I1.big)⟩⟩)⟩
end
end Rw

namespace Rw
open PySem PySem.Spec PyProof.Rows L2
mutual
theorem Dt.dp {K : PySem.W.Frag} {av : List Addr} {H : Hp} : ∀ (d : PyData) (v : V), Dt av H v d → d.canLay0 = true → Dp K H v d
  | _, _, .non, _ => .non
  | _, _, .bl b, _ => .bl b
  | _, _, .int i, _ => .int i
  | _, _, .str x, _ => .str x
  | .list ds, _, .lst n e s, h => .lst (SqL.of e) (Dts.dp ds _ s (by simpa only [PyData.canLay0] using h))
  | .tuple ds, _, .tup n e s, h => .tup (SqT.of e) (Dts.dp ds _ s (by simpa only [PyData.canLay0] using h))
  | .dict _, _, .dct n e, h => by simp only [PyData.canLay0] at h; cases h
theorem Dts.dp {K : PySem.W.Frag} {av : List Addr} {H : Hp} : ∀ (ds : List PyData) (vs : List V), Dts av H vs ds → PyData.canLayAll0 ds = true → DpAll K H vs ds
  | [], _, .nil, _ => .nil
  | d :: ds, _, .cons x t, h => by
    simp only [PyData.canLayAll0, Bool.and_eq_true] at h
    exact .cons (Dt.dp d _ x h.1) (Dts.dp ds _ t h.2)
end
theorem lay_prs : ∀ na : List (Int × Int), PyData.canLayAll0 (na.map prD) = true
  | [] => by simp [PyData.canLayAll0]
  | p :: na => by
    have e : prD p = .tuple [.int p.1, .int p.2] := rfl
    rw [List.map_cons, e]
    simp only [PyData.canLayAll0, PyData.canLay0, lay_prs na, Bool.and_true]
theorem lay_pis : ∀ ps : List Pi, PyData.canLayAll0 (ps.map Pi.dat) = true
  | [] => by simp [PyData.canLayAll0]
  | p :: ps => by
    have e : p.dat = .tuple [.int p.x, .int p.y, .int p.l, .tuple (p.na.map prD), .tuple (p.fl.map prD)] := rfl
    rw [List.map_cons, e]
    simp only [PyData.canLayAll0, PyData.canLay0, lay_prs, lay_pis ps, Bool.and_true]
theorem shaped_of {d : PyData} (h : d.canLay0 = true) (h2 : d.depth ≤ 64) : SeqAt.shaped d = true := by
  unfold SeqAt.shaped
  rw [h, decide_eq_true h2]; rfl
theorem eqv_nil (ds : List PyData) : PyData.eqv (.tuple ds) (.tuple []) = ds.isEmpty := by
  cases ds <;> rfl
/-! ### a house as it is handed about: its two parts -/
theorem house_parts {av : List Addr} {H : Hp} {h : V} {n : Int} {ps : List PyData} (x : Dt av H h (houseD n ps)) :
    ∃ (ah ap : Addr) (xp : List V), h = .ref ah ∧ ah ∉ av ∧ H ah = some (.tup [.int n, .ref ap]) ∧ ap ∉ av ∧ H ap = some (.tup xp) ∧ Dts av H xp ps := by
  cases x with
  | tup na ea da =>
    cases da with
    | cons d1 da =>
      cases d1
      cases da with
      | cons d2 da =>
        cases da
        cases d2 with
        | tup nb eb db => exact ⟨_, _, _, rfl, na, ea, nb, eb, db⟩
/-! the pipe at a place -/
theorem pi_at {av : List Addr} {H : Hp} {xp : List V} {ps : List Pi} (hs : Dts av H xp (ps.map Pi.dat)) {i : Int} (h0 : 0 ≤ i) (h1 : i < ps.length) :
    ∃ (p : Pi) (pa T1 T2 : Addr), p ∈ ps ∧ ps[i.toNat]? = some p ∧ atI xp i = some (.ref pa) ∧ H pa = some (.tup [.int p.x, .int p.y, .int p.l, .ref T1, .ref T2]) := by
  have e : ps[i.toNat]? = some (ps[i.toNat]'(by omega)) := List.getElem?_eq_getElem (by omega)
  obtain ⟨v, ev, dv⟩ := hs.get i.toNat (d := (ps[i.toNat]'(by omega)).dat) (by rw [List.getElem?_map, e]; rfl)
  have ep : (ps[i.toNat]'(by omega)).dat = .tuple [.int (ps[i.toNat]'(by omega)).x, .int (ps[i.toNat]'(by omega)).y, .int (ps[i.toNat]'(by omega)).l, .tuple ((ps[i.toNat]'(by omega)).na.map prD), .tuple ((ps[i.toNat]'(by omega)).fl.map prD)] := rfl
  rw [ep] at dv
  cases dv with
  | tup na ea da =>
    cases da with
    | cons d1 da => cases d1; cases da with
      | cons d2 da => cases d2; cases da with
        | cons d3 da => cases d3; cases da with
          | cons d4 da => cases d4 with
            | tup _ _ _ => cases da with
              | cons d5 da => cases d5 with
                | tup _ _ _ =>
                  cases da
                  exact ⟨_, _, _, _, List.getElem_mem _, e, atI_of h0 ev, ea⟩
end Rw

namespace Rw
/-! ### places of a house, their distances -/
def pr (ps : List Pi) (i : Int) : Pi := ps.getD i.toNat default
theorem pr_mem {ps : List Pi} {i : Int} (h0 : 0 ≤ i) (h1 : i < ps.length) : pr ps i ∈ ps ∧ ps[i.toNat]? = some (pr ps i) := by
  have e : ps[i.toNat]? = some (ps[i.toNat]'(by omega)) := List.getElem?_eq_getElem (by omega)
  unfold pr
  rw [List.getD_eq_getElem?_getD, e]
  exact ⟨List.getElem_mem _, rfl⟩
theorem pr_of {ps : List Pi} {j : Nat} {p : Pi} (h : ps[j]? = some p) : pr ps (j : Int) = p := by
  unfold pr
  rw [List.getD_eq_getElem?_getD, show ((j : Int)).toNat = j by omega, h]; rfl
abbrev Pl := List Int
def okP (n : Int) (ps : List Pi) : Pl → Prop
  | [r] => 0 ≤ r ∧ r < n
  | [i, a] => 0 ≤ i ∧ i < ps.length ∧ 1 ≤ a ∧ a ≤ (pr ps i).l - 1
  | _ => False
def ab (a b : Int) : Int := if a < b then b - a else a - b
def dr (ps : List Pi) (d : Int → Int → Int) (s i a : Int) : Int := min (d s (pr ps i).x + a) (d s (pr ps i).y + ((pr ps i).l - a))
def Dp (ps : List Pi) (d : Int → Int → Int) : Pl → Pl → Int
  | [s], [t] => d s t
  | [s], [i, a] => dr ps d s i a
  | [i, a], [s] => dr ps d s i a
  | [i, a], [j, b] => if i = j then ab a b else min (a + dr ps d (pr ps i).x j b) ((pr ps i).l - a + dr ps d (pr ps i).y j b)
  | _, _ => 0
def nm (ps : List Pi) (i a : Int) : Pl := if a = 0 then [(pr ps i).x] else if a = (pr ps i).l then [(pr ps i).y] else [i, a]
def Adj (ps : List Pi) (p q : Pl) : Prop := ∃ i a : Int, 0 ≤ i ∧ i < ps.length ∧ 0 ≤ a ∧ a < (pr ps i).l ∧ ((p = nm ps i a ∧ q = nm ps i (a + 1)) ∨ (q = nm ps i a ∧ p = nm ps i (a + 1)))
theorem Adj.symm {ps : List Pi} {p q : Pl} (h : Adj ps p q) : Adj ps q p := by
  obtain ⟨i, a, h1, h2, h3, h4, h5⟩ := h
  exact ⟨i, a, h1, h2, h3, h4, h5.symm⟩
theorem ok_cases {n : Int} {ps : List Pi} {p : Pl} (h : okP n ps p) : (∃ r, p = [r] ∧ 0 ≤ r ∧ r < n) ∨ ∃ i a, p = [i, a] ∧ 0 ≤ i ∧ i < ps.length ∧ 1 ≤ a ∧ a ≤ (pr ps i).l - 1 := by
  match p, h with
  | [r], h => exact .inl ⟨r, rfl, h⟩
  | [i, a], h => exact .inr ⟨i, a, rfl, h⟩
/-! how a source is seen along a pipe: its foot -/
def foot1 (ps : List Pi) (d : Int → Int → Int) (r i : Int) : Int := if d r (pr ps i).y = d r (pr ps i).x + (pr ps i).l then 0 else (pr ps i).l
def foot (ps : List Pi) (d : Int → Int → Int) : Pl → Int → Int
  | [r], i => foot1 ps d r i
  | [j, b], i => if j = i then b else if d (pr ps j).x (pr ps i).x < d (pr ps j).y (pr ps i).x then foot1 ps d (pr ps j).x i else foot1 ps d (pr ps j).y i
  | _, _ => 0
section
variable {n : Int} {ps : List Pi} {d : Int → Int → Int} (T : Tm n ps d)
include T
theorem Tm.at {i : Int} (h0 : 0 ≤ i) (h1 : i < ps.length) : 0 ≤ (pr ps i).x ∧ (pr ps i).x < n ∧ 0 ≤ (pr ps i).y ∧ (pr ps i).y < n ∧ 1 ≤ (pr ps i).l := T.ok _ (pr_mem h0 h1).1
theorem Tm.stp {i s : Int} (h0 : 0 ≤ i) (h1 : i < ps.length) (s0 : 0 ≤ s) (s1 : s < n) : d s (pr ps i).x = d s (pr ps i).y + (pr ps i).l ∨ d s (pr ps i).y = d s (pr ps i).x + (pr ps i).l := T.step _ (pr_mem h0 h1).1 s s0 s1
theorem Tm.own {i : Int} (h0 : 0 ≤ i) (h1 : i < ps.length) : d (pr ps i).x (pr ps i).y = (pr ps i).l ∧ d (pr ps i).y (pr ps i).x = (pr ps i).l ∧ (pr ps i).x ≠ (pr ps i).y := by
  obtain ⟨a1, a2, a3, a4, a5⟩ := T.at h0 h1
  have e1 := T.stp h0 h1 a1 a2
  have e2 := T.sym (pr ps i).x (pr ps i).y
  have e3 := T.zero (pr ps i).x
  have e4 := T.nn a1 a2 a3 a4
  refine ⟨by omega, by omega, fun z => ?_⟩
  rw [← z] at e1
  omega
theorem Tm.sd {i j : Int} (h0 : 0 ≤ i) (h1 : i < ps.length) (k0 : 0 ≤ j) (k1 : j < ps.length) (ne : j ≠ i) :
    d (pr ps j).x (pr ps i).x - d (pr ps j).y (pr ps i).x = d (pr ps j).x (pr ps i).y - d (pr ps j).y (pr ps i).y :=
  T.side j.toNat i.toNat _ _ (by omega) (pr_mem k0 k1).2 (pr_mem h0 h1).2
theorem foot1_at {i r : Int} (h0 : 0 ≤ i) (h1 : i < ps.length) (r0 : 0 ≤ r) (r1 : r < n) {a : Int} (a0 : 0 ≤ a) (a1 : a ≤ (pr ps i).l) :
    dr ps d r i a = dr ps d r i (foot1 ps d r i) + ab a (foot1 ps d r i) ∧ (foot1 ps d r i = 0 ∨ foot1 ps d r i = (pr ps i).l) := by
  have l1 := (T.at h0 h1).2.2.2.2
  have st := T.stp h0 h1 r0 r1
  unfold dr foot1 ab
  by_cases u : d r (pr ps i).y = d r (pr ps i).x + (pr ps i).l
  · rw [if_pos u]; refine ⟨?_, .inl rfl⟩; split <;> omega
  · rw [if_neg u]; refine ⟨?_, .inr rfl⟩; split <;> omega
theorem dr_0 {i r : Int} (h0 : 0 ≤ i) (h1 : i < ps.length) (r0 : 0 ≤ r) (r1 : r < n) : dr ps d r i 0 = d r (pr ps i).x ∧ dr ps d r i (pr ps i).l = d r (pr ps i).y := by
  have l1 := (T.at h0 h1).2.2.2.2
  have st := T.stp h0 h1 r0 r1
  unfold dr; omega
/-! along a pipe, from a room -/
theorem Dp_room {i r : Int} (h0 : 0 ≤ i) (h1 : i < ps.length) (r0 : 0 ≤ r) (r1 : r < n) (a : Int) : Dp ps d [r] (nm ps i a) = dr ps d r i a := by
  unfold nm
  by_cases e : a = 0
  · rw [if_pos e, e]; exact (dr_0 T h0 h1 r0 r1).1.symm
  · rw [if_neg e]
    by_cases f : a = (pr ps i).l
    · rw [if_pos f, f]; exact (dr_0 T h0 h1 r0 r1).2.symm
    · rw [if_neg f]; rfl
/-! along a pipe, from a place of it -/
theorem Dp_same {i b : Int} (h0 : 0 ≤ i) (h1 : i < ps.length) (b0 : 1 ≤ b) (b1 : b ≤ (pr ps i).l - 1) (a : Int) : Dp ps d [i, b] (nm ps i a) = ab b a := by
  obtain ⟨o1, o2, o3⟩ := T.own h0 h1
  have z1 := T.zero (pr ps i).x
  have z2 := T.zero (pr ps i).y
  unfold nm
  by_cases e : a = 0
  · rw [if_pos e, e]; show dr ps d (pr ps i).x i b = _; unfold dr ab; split <;> omega
  · rw [if_neg e]
    by_cases f : a = (pr ps i).l
    · rw [if_pos f, f]; show dr ps d (pr ps i).y i b = _; unfold dr ab; split <;> omega
    · rw [if_neg f]; show (if i = i then ab b a else _) = _; rw [if_pos rfl]
/-! along a pipe, from a place of another one: as from the room on this side -/
theorem Dp_else {i j b : Int} (h0 : 0 ≤ i) (h1 : i < ps.length) (k0 : 0 ≤ j) (k1 : j < ps.length) (ne : j ≠ i) (b0 : 1 ≤ b) (b1 : b ≤ (pr ps j).l - 1) (a : Int) (a0 : 0 ≤ a) (a1 : a ≤ (pr ps i).l) :
    Dp ps d [j, b] (nm ps i a) = if d (pr ps j).x (pr ps i).x < d (pr ps j).y (pr ps i).x then b + dr ps d (pr ps j).x i a else (pr ps j).l - b + dr ps d (pr ps j).y i a := by
  obtain ⟨x0, x1, y0, y1, l1⟩ := T.at h0 h1
  obtain ⟨u0, u1, v0, v1, m1⟩ := T.at k0 k1
  have sd := T.sd h0 h1 k0 k1 ne
  have s1 := T.stp k0 k1 x0 x1
  have s2 := T.stp k0 k1 y0 y1
  rw [T.sym _ (pr ps j).x, T.sym _ (pr ps j).y] at s1 s2
  have t1 := T.stp h0 h1 u0 u1
  have t2 := T.stp h0 h1 v0 v1
  have main : min (b + dr ps d (pr ps j).x i a) ((pr ps j).l - b + dr ps d (pr ps j).y i a) = if d (pr ps j).x (pr ps i).x < d (pr ps j).y (pr ps i).x then b + dr ps d (pr ps j).x i a else (pr ps j).l - b + dr ps d (pr ps j).y i a := by
    unfold dr
    split <;> omega
  rw [← main]
  unfold nm
  by_cases e : a = 0
  · rw [if_pos e, e, (dr_0 T h0 h1 u0 u1).1, (dr_0 T h0 h1 v0 v1).1]
    show dr ps d (pr ps i).x j b = _
    unfold dr
    rw [T.sym _ (pr ps j).x, T.sym _ (pr ps j).y]
    omega
  · rw [if_neg e]
    by_cases f : a = (pr ps i).l
    · rw [if_pos f, f, (dr_0 T h0 h1 u0 u1).2, (dr_0 T h0 h1 v0 v1).2]
      show dr ps d (pr ps i).y j b = _
      unfold dr
      rw [T.sym _ (pr ps j).x, T.sym _ (pr ps j).y]
      omega
    · rw [if_neg f]
      show (if j = i then ab b a else _) = _
      rw [if_neg ne]
theorem foot_at {s : Pl} (hs : okP n ps s) {i : Int} (h0 : 0 ≤ i) (h1 : i < ps.length) : 0 ≤ foot ps d s i ∧ foot ps d s i ≤ (pr ps i).l ∧ (0 < foot ps d s i → foot ps d s i < (pr ps i).l → s = [i, foot ps d s i]) ∧
    ∀ a, 0 ≤ a → a ≤ (pr ps i).l → Dp ps d s (nm ps i a) = Dp ps d s (nm ps i (foot ps d s i)) + ab a (foot ps d s i) := by
  have l1 := (T.at h0 h1).2.2.2.2
  rcases ok_cases hs with ⟨r, rfl, r0, r1⟩ | ⟨j, b, rfl, k0, k1, b0, b1⟩
  · have f := fun a => foot1_at T (a := a) h0 h1 r0 r1
    have f0 := (f 0 (by omega) (by omega)).2
    show 0 ≤ foot1 ps d r i ∧ foot1 ps d r i ≤ _ ∧ (0 < foot1 ps d r i → foot1 ps d r i < _ → _) ∧ ∀ a, _ → _ → _ = Dp ps d [r] (nm ps i (foot1 ps d r i)) + ab a (foot1 ps d r i)
    refine ⟨by omega, by omega, fun _ _ => by omega, fun a a0 a1 => ?_⟩
    rw [Dp_room T h0 h1 r0 r1, Dp_room T h0 h1 r0 r1]
    exact (f a a0 a1).1
  · by_cases e : j = i
    · subst e
      have ef : foot ps d [j, b] j = b := if_pos rfl
      rw [ef]
      refine ⟨by omega, by omega, fun _ _ => rfl, fun a a0 a1 => ?_⟩
      rw [Dp_same T h0 h1 b0 b1, Dp_same T h0 h1 b0 b1]
      unfold ab
      split <;> split <;> omega
    · obtain ⟨u0, u1, v0, v1, m1⟩ := T.at k0 k1
      by_cases c : d (pr ps j).x (pr ps i).x < d (pr ps j).y (pr ps i).x
      · have ef : foot ps d [j, b] i = foot1 ps d (pr ps j).x i := (if_neg e).trans (if_pos c)
        have f := fun a => foot1_at T (a := a) h0 h1 u0 u1
        have f0 := (f 0 (by omega) (by omega)).2
        rw [ef]
        refine ⟨by omega, by omega, fun _ _ => by omega, fun a a0 a1 => ?_⟩
        rw [Dp_else T h0 h1 k0 k1 e b0 b1 a a0 a1, Dp_else T h0 h1 k0 k1 e b0 b1 _ (by omega) (by omega), if_pos c, if_pos c]
        have := (f a a0 a1).1
        omega
      · have ef : foot ps d [j, b] i = foot1 ps d (pr ps j).y i := (if_neg e).trans (if_neg c)
        have f := fun a => foot1_at T (a := a) h0 h1 v0 v1
        have f0 := (f 0 (by omega) (by omega)).2
        rw [ef]
        refine ⟨by omega, by omega, fun _ _ => by omega, fun a a0 a1 => ?_⟩
        rw [Dp_else T h0 h1 k0 k1 e b0 b1 a a0 a1, Dp_else T h0 h1 k0 k1 e b0 b1 _ (by omega) (by omega), if_neg c, if_neg c]
        have := (f a a0 a1).1
        omega
/-! one step nearer, one step farther -/
theorem Dp_step {s : Pl} (hs : okP n ps s) {p q : Pl} (h : Adj ps p q) : Dp ps d s q = Dp ps d s p + 1 ∨ Dp ps d s p = Dp ps d s q + 1 := by
  obtain ⟨i, a, h0, h1, a0, a1, h⟩ := h
  obtain ⟨_, _, _, f⟩ := foot_at T hs h0 h1
  have e1 := f a a0 (by omega)
  have e2 := f (a + 1) (by omega) (by omega)
  unfold ab at e1 e2
  rcases h with ⟨rfl, rfl⟩ | ⟨rfl, rfl⟩ <;> (split at e1 <;> split at e2 <;> omega)
/-! a door at a room by which one comes nearer -/
theorem foot1_door {r t i : Int} (h0 : 0 ≤ i) (h1 : i < ps.length) (r0 : 0 ≤ r) (r1 : r < n) : Dn ps d r t i.toNat ↔ (((pr ps i).x = t ∧ foot1 ps d r i ≠ 0) ∨ ((pr ps i).y = t ∧ foot1 ps d r i ≠ (pr ps i).l)) := by
  have l1 := (T.at h0 h1).2.2.2.2
  have st := T.stp h0 h1 r0 r1
  constructor
  · rintro ⟨p, e, h⟩
    rw [(pr_mem h0 h1).2] at e
    cases e
    unfold foot1
    rcases h with ⟨e1, e2⟩ | ⟨e1, e2⟩
    · left; refine ⟨e1, ?_⟩; rw [← e1] at e2; rw [if_neg (by omega)]; omega
    · right; refine ⟨e1, ?_⟩; rw [← e1] at e2; rw [if_pos (by omega)]; omega
  · intro h
    refine ⟨_, (pr_mem h0 h1).2, ?_⟩
    unfold foot1 at h
    rcases h with ⟨e1, e2⟩ | ⟨e1, e2⟩
    · left; refine ⟨e1, ?_⟩
      by_cases u : d r (pr ps i).y = d r (pr ps i).x + (pr ps i).l
      · rw [if_pos u] at e2; exact absurd rfl e2
      · rw [← e1]; omega
    · right; refine ⟨e1, ?_⟩
      by_cases u : d r (pr ps i).y = d r (pr ps i).x + (pr ps i).l
      · rw [← e1]; omega
      · rw [if_neg u] at e2; exact absurd rfl e2
/-! a room on the one side of a pipe: its doors are seen from that side's room -/
theorem foot_side {j b t : Int} (k0 : 0 ≤ j) (k1 : j < ps.length) (b0 : 1 ≤ b) (b1 : b ≤ (pr ps j).l - 1) (t0 : 0 ≤ t) (t1 : t < n) :
    ∃ c, (c = (pr ps j).x ∨ c = (pr ps j).y) ∧ 0 ≤ c ∧ c < n ∧
      (∀ i : Int, 0 ≤ i → i < ps.length → ((pr ps i).x = t ∨ (pr ps i).y = t) → i ≠ j → foot ps d [j, b] i = foot1 ps d c i) ∧
      ((pr ps j).x = t → c = t) ∧ ((pr ps j).y = t → c = t) := by
  obtain ⟨u0, u1, v0, v1, m1⟩ := T.at k0 k1
  obtain ⟨o1, o2, o3⟩ := T.own k0 k1
  have zx := T.zero (pr ps j).x
  have zy := T.zero (pr ps j).y
  by_cases c : d (pr ps j).x t < d (pr ps j).y t
  · refine ⟨(pr ps j).x, .inl rfl, u0, u1, fun i h0 h1 ht ne => ?_, fun e => e, fun e => ?_⟩
    · have sd := T.sd h0 h1 k0 k1 (Ne.symm ne)
      have c' : d (pr ps j).x (pr ps i).x < d (pr ps j).y (pr ps i).x := by rcases ht with e | e <;> rw [← e] at c <;> omega
      exact (if_neg (Ne.symm ne)).trans (if_pos c')
    · rw [← e] at c; omega
  · refine ⟨(pr ps j).y, .inr rfl, v0, v1, fun i h0 h1 ht ne => ?_, fun e => ?_, fun e => e⟩
    · have sd := T.sd h0 h1 k0 k1 (Ne.symm ne)
      have c' : ¬ d (pr ps j).x (pr ps i).x < d (pr ps j).y (pr ps i).x := by rcases ht with e | e <;> rw [← e] at c <;> omega
      exact (if_neg (Ne.symm ne)).trans (if_neg c')
    · rw [← e] at c; omega
/-! at a room that isn't the source there is just one such door -/
def Door (ps : List Pi) (d : Int → Int → Int) (s : Pl) (t i : Int) : Prop := 0 ≤ i ∧ i < ps.length ∧ (((pr ps i).x = t ∧ foot ps d s i ≠ 0) ∨ ((pr ps i).y = t ∧ foot ps d s i ≠ (pr ps i).l))
theorem own_foot {c i : Int} (h0 : 0 ≤ i) (h1 : i < ps.length) (c0 : 0 ≤ c) (c1 : c < n) : ((pr ps i).x = c → foot1 ps d c i = 0) ∧ ((pr ps i).y = c → foot1 ps d c i = (pr ps i).l) := by
  obtain ⟨x0, x1, y0, y1, l1⟩ := T.at h0 h1
  obtain ⟨o1, o2, o3⟩ := T.own h0 h1
  have zx := T.zero (pr ps i).x
  have zy := T.zero (pr ps i).y
  unfold foot1
  exact ⟨fun e => by rw [← e, if_pos (by omega)], fun e => by rw [← e, if_neg (by omega)]⟩
theorem door_ex {s : Pl} (hs : okP n ps s) {t : Int} (t0 : 0 ≤ t) (t1 : t < n) (ne : s ≠ [t]) : ∃ i, Door ps d s t i := by
  rcases ok_cases hs with ⟨r, rfl, r0, r1⟩ | ⟨j, b, rfl, k0, k1, b0, b1⟩
  · obtain ⟨i, p, e, h⟩ := T.par r t r0 r1 t0 t1 (fun z => ne (by rw [z]))
    have hi : i < ps.length := (List.getElem?_eq_some_iff.mp e).1
    refine ⟨(i : Int), by omega, by omega, ?_⟩
    exact (foot1_door T (by omega) (by omega) r0 r1).mp ⟨p, by rw [show ((i : Int)).toNat = i by omega]; exact e, h⟩
  · obtain ⟨c, hc, c0, c1, hf, ex, ey⟩ := foot_side T k0 k1 b0 b1 t0 t1
    have ej : foot ps d [j, b] j = b := if_pos rfl
    by_cases z : c = t
    · subst z
      rcases hc with e | e
      · exact ⟨j, k0, k1, .inl ⟨e.symm, by rw [ej]; omega⟩⟩
      · exact ⟨j, k0, k1, .inr ⟨e.symm, by rw [ej]; omega⟩⟩
    · obtain ⟨i, p, e, h⟩ := T.par c t c0 c1 t0 t1 z
      have hi : i < ps.length := (List.getElem?_eq_some_iff.mp e).1
      have dd := (foot1_door T (t := t) (i := (i : Int)) (by omega) (by omega) c0 c1).mp ⟨p, by rw [show ((i : Int)).toNat = i by omega]; exact e, h⟩
      have nj : (i : Int) ≠ j := fun w => by
        rw [w] at dd
        rcases dd with ⟨e1, _⟩ | ⟨e1, _⟩
        · exact z (ex e1)
        · exact z (ey e1)
      refine ⟨(i : Int), by omega, by omega, ?_⟩
      rw [hf i (by omega) (by omega) (dd.elim (fun q => .inl q.1) (fun q => .inr q.1)) nj]
      exact dd
theorem door_uni {s : Pl} (hs : okP n ps s) {t : Int} (t0 : 0 ≤ t) (t1 : t < n) {i i' : Int} (h : Door ps d s t i) (h' : Door ps d s t i') : i = i' := by
  obtain ⟨h0, h1, h2⟩ := h
  obtain ⟨g0, g1, g2⟩ := h'
  rcases ok_cases hs with ⟨r, rfl, r0, r1⟩ | ⟨j, b, rfl, k0, k1, b0, b1⟩
  · have := T.uni r t i.toNat i'.toNat r0 r1 t0 t1 ((foot1_door T h0 h1 r0 r1).mpr h2) ((foot1_door T g0 g1 r0 r1).mpr g2)
    omega
  · obtain ⟨c, hc, c0, c1, hf, ex, ey⟩ := foot_side T k0 k1 b0 b1 t0 t1
    have self : ∀ k : Int, 0 ≤ k → k < ps.length → (((pr ps k).x = t ∧ foot ps d [j, b] k ≠ 0) ∨ ((pr ps k).y = t ∧ foot ps d [j, b] k ≠ (pr ps k).l)) → k ≠ j → c ≠ t ∧ Dn ps d c t k.toNat := by
      intro k p0 p1 p2 nk
      rw [hf k p0 p1 (p2.elim (fun q => .inl q.1) (fun q => .inr q.1)) nk] at p2
      refine ⟨fun z => ?_, (foot1_door T p0 p1 c0 c1).mpr p2⟩
      have o := own_foot T p0 p1 c0 c1
      rcases p2 with ⟨e1, e2⟩ | ⟨e1, e2⟩
      · exact e2 (o.1 (by rw [e1, z]))
      · exact e2 (o.2 (by rw [e1, z]))
    have atj : (((pr ps j).x = t ∧ foot ps d [j, b] j ≠ 0) ∨ ((pr ps j).y = t ∧ foot ps d [j, b] j ≠ (pr ps j).l)) → c = t := fun q => q.elim (fun z => ex z.1) (fun z => ey z.1)
    by_cases e : i = j
    · by_cases e' : i' = j
      · rw [e, e']
      · rw [e] at h2
        exact absurd (atj h2) (self i' g0 g1 g2 e').1
    · by_cases e' : i' = j
      · rw [e'] at g2
        exact absurd (atj g2) (self i h0 h1 h2 e).1
      · have := T.uni c t i.toNat i'.toNat c0 c1 t0 t1 (self i h0 h1 h2 e).2 (self i' g0 g1 g2 e').2
        omega
end
end Rw

namespace Rw
/-! ### going through a tree from a source -/
structure Sr {α : Type} (src : α) (V : α → Prop) (D : α → Int) (E : α → α → Int → Prop) : Prop where
  zero : D src = 0
  here : V src
  nn : ∀ v, V v → 0 ≤ D v
  wt : ∀ u v w, V u → E u v w → 1 ≤ w
  cl : ∀ u v w, V u → E u v w → V v
  sym : ∀ u v w, E u v w → E v u w
  step : ∀ u v w, V u → E u v w → D v = D u + w ∨ D u = D v + w
  par : ∀ v, V v → v ≠ src → ∃ u w, E v u w ∧ D v = D u + w
  uni : ∀ v u w u' w', V v → E v u w → E v u' w' → D v = D u + w → D v = D u' + w' → u = u'
/-! what was found holds with each the one nearer to the source -/
def Pard {α : Type} (src : α) (D : α → Int) (E : α → α → Int → Prop) (F : List α) : Prop := ∀ v ∈ F, v ≠ src → ∃ u ∈ F, ∃ w, E v u w ∧ D v = D u + w
theorem Sr.found {α : Type} {src : α} {V : α → Prop} {D : α → Int} {E : α → α → Int → Prop} (S : Sr src V D E) {F : List α} (P : Pard src D E F) {u v : α} {w : Int} (hu : u ∈ F) (vu : V u) (e : E u v w) (hv : v ∉ F) : D v = D u + w := by
  rcases S.step u v w vu e with h | h
  · exact h
  · have h1 := S.nn v (S.cl u v w vu e)
    have h2 := S.wt u v w vu e
    have ne : u ≠ src := fun z => by rw [z, S.zero] at h; omega
    obtain ⟨u', m, w', e', h'⟩ := P u hu ne
    have := S.uni u v w u' w' vu e e' h h'
    rw [this] at hv
    exact absurd m hv
theorem Pard.snoc {α : Type} {src : α} {D : α → Int} {E : α → α → Int → Prop} {F : List α} (P : Pard src D E F) {u v : α} {w : Int} (hu : u ∈ F) (e : E v u w) (h : D v = D u + w) : Pard src D E (F ++ [v]) := fun x hx nx => by
  rcases List.mem_append.mp hx with m | m
  · obtain ⟨y, my, r⟩ := P x m nx
    exact ⟨y, List.mem_append_left _ my, r⟩
  · rw [List.mem_singleton.mp m]
    exact ⟨u, List.mem_append_left _ hu, w, e, h⟩
theorem Sr.all {α : Type} {src : α} {V : α → Prop} {D : α → Int} {E : α → α → Int → Prop} (S : Sr src V D E) {F : List α} (h0 : src ∈ F) (hc : ∀ u ∈ F, ∀ v w, E u v w → v ∈ F) : ∀ (k : Nat) (v : α), V v → (D v).toNat < k → v ∈ F
  | 0, _, _, h => absurd h (Nat.not_lt_zero _)
  | k + 1, v, vv, h => by
    by_cases e : v = src
    · rw [e]; exact h0
    · obtain ⟨u, w, euv, hd⟩ := S.par v vv e
      have vu := S.cl v u w vv euv
      have n1 := S.nn u vu
      have n2 := S.wt v u w vv euv
      exact hc u (S.all h0 hc k u vu (by omega)) v w (S.sym v u w euv)
/-! ### rooms -/
def RE (ps : List Pi) (u v w : Int) : Prop := ∃ (i : Nat) (p : Pi), ps[i]? = some p ∧ w = p.l ∧ ((p.x = u ∧ p.y = v) ∨ (p.y = u ∧ p.x = v))
theorem Tm.rooms {n : Int} {ps : List Pi} {d : Int → Int → Int} (T : Tm n ps d) {r : Int} (r0 : 0 ≤ r) (r1 : r < n) : Sr r (fun t => 0 ≤ t ∧ t < n) (d r) (RE ps) where
  zero := T.zero r
  here := ⟨r0, r1⟩
  nn := fun v h => T.nn r0 r1 h.1 h.2
  wt := fun u v w _ ⟨i, p, e, hw, _⟩ => by rw [hw]; exact (T.ok p (List.mem_of_getElem? e)).2.2.2.2
  cl := fun u v w _ ⟨i, p, e, _, h⟩ => by
    obtain ⟨a1, a2, a3, a4, _⟩ := T.ok p (List.mem_of_getElem? e)
    rcases h with ⟨_, h⟩ | ⟨_, h⟩ <;> rw [← h]
    · exact ⟨a3, a4⟩
    · exact ⟨a1, a2⟩
  sym := fun u v w ⟨i, p, e, hw, h⟩ => ⟨i, p, e, hw, h.elim (fun z => .inr ⟨z.2, z.1⟩) (fun z => .inl ⟨z.2, z.1⟩)⟩
  step := fun u v w _ ⟨i, p, e, hw, h⟩ => by
    have s := T.step p (List.mem_of_getElem? e) r r0 r1
    rw [hw]
    rcases h with ⟨h1, h2⟩ | ⟨h1, h2⟩ <;> rw [← h1, ← h2]
    · exact s.symm
    · exact s
  par := fun v h ne => by
    obtain ⟨i, p, e, h⟩ := T.par r v r0 r1 h.1 h.2 (Ne.symm ne)
    rcases h with ⟨h1, h2⟩ | ⟨h1, h2⟩
    · exact ⟨p.y, p.l, ⟨i, p, e, rfl, .inl ⟨h1, rfl⟩⟩, h2.symm⟩
    · exact ⟨p.x, p.l, ⟨i, p, e, rfl, .inr ⟨h1, rfl⟩⟩, h2.symm⟩
  uni := fun v u w u' w' h ⟨i, p, e, hw, hp⟩ ⟨j, q, f, hv, hq⟩ h1 h2 => by
    have t1 : Dn ps (d) r v i := ⟨p, e, hp.elim (fun z => .inl ⟨z.1, by rw [z.2, ← hw]; exact h1.symm⟩) (fun z => .inr ⟨z.1, by rw [z.2, ← hw]; exact h1.symm⟩)⟩
    have t2 : Dn ps (d) r v j := ⟨q, f, hq.elim (fun z => .inl ⟨z.1, by rw [z.2, ← hv]; exact h2.symm⟩) (fun z => .inr ⟨z.1, by rw [z.2, ← hv]; exact h2.symm⟩)⟩
    have ij := T.uni r v i j r0 r1 h.1 h.2 t1 t2
    subst ij
    rw [e] at f
    cases f
    have hi : i < ps.length := (List.getElem?_eq_some_iff.mp e).1
    have o := (T.own (i := (i : Int)) (by omega) (by omega)).2.2
    rw [pr_of e] at o
    rcases hp with ⟨a1, a2⟩ | ⟨a1, a2⟩ <;> rcases hq with ⟨b1, b2⟩ | ⟨b1, b2⟩
    · rw [← a2, ← b2]
    · exact absurd (a1.trans b1.symm) o
    · exact absurd (b1.trans a1.symm) o
    · rw [← a2, ← b2]
/-! ### places -/
theorem nm_0 (ps : List Pi) (i : Int) : nm ps i 0 = [(pr ps i).x] := if_pos rfl
theorem nm_l {ps : List Pi} {i : Int} (h : (pr ps i).l ≠ 0) : nm ps i (pr ps i).l = [(pr ps i).y] := (if_neg h).trans (if_pos rfl)
theorem nm_mid {ps : List Pi} {i a : Int} (h : a ≠ 0) (h2 : a ≠ (pr ps i).l) : nm ps i a = [i, a] := (if_neg h).trans (if_neg h2)
theorem nm_two {ps : List Pi} {i a j b : Int} (h : nm ps i a = [j, b]) : i = j ∧ a = b ∧ a ≠ 0 ∧ a ≠ (pr ps i).l := by
  unfold nm at h
  split at h
  · cases h
  · split at h
    · cases h
    · rename_i x y
      cases h
      exact ⟨rfl, rfl, x, y⟩
theorem nm_one {ps : List Pi} {i a t : Int} (h : nm ps i a = [t]) : (a = 0 ∧ (pr ps i).x = t) ∨ (a = (pr ps i).l ∧ (pr ps i).y = t) := by
  unfold nm at h
  split at h
  · rename_i x; cases h; exact .inl ⟨x, rfl⟩
  · split at h
    · rename_i x; cases h; exact .inr ⟨x, rfl⟩
    · cases h
section
variable {n : Int} {ps : List Pi} {d : Int → Int → Int} (T : Tm n ps d)
include T
theorem ok_nm {i a : Int} (h0 : 0 ≤ i) (h1 : i < ps.length) (a0 : 0 ≤ a) (a1 : a ≤ (pr ps i).l) : okP n ps (nm ps i a) := by
  obtain ⟨x0, x1, y0, y1, l1⟩ := T.at h0 h1
  by_cases e : a = 0
  · rw [e, nm_0]; exact ⟨x0, x1⟩
  · by_cases f : a = (pr ps i).l
    · rw [f, nm_l (by omega)]; exact ⟨y0, y1⟩
    · rw [nm_mid e f]; exact ⟨h0, h1, by omega, by omega⟩
theorem Dp_nn {s q : Pl} (hs : okP n ps s) (hq : okP n ps q) : 0 ≤ Dp ps d s q := by
  have drn : ∀ {r i a : Int}, 0 ≤ r → r < n → 0 ≤ i → i < ps.length → 0 ≤ a → a ≤ (pr ps i).l → 0 ≤ dr ps d r i a := fun {r i a} r0 r1 h0 h1 a0 a1 => by
    obtain ⟨x0, x1, y0, y1, l1⟩ := T.at h0 h1
    have e1 := T.nn r0 r1 x0 x1
    have e2 := T.nn r0 r1 y0 y1
    unfold dr; omega
  rcases ok_cases hs with ⟨r, rfl, r0, r1⟩ | ⟨j, b, rfl, k0, k1, b0, b1⟩ <;> rcases ok_cases hq with ⟨t, rfl, t0, t1⟩ | ⟨i, a, rfl, h0, h1, a0, a1⟩
  · exact T.nn r0 r1 t0 t1
  · exact drn r0 r1 h0 h1 (by omega) (by omega)
  · exact drn t0 t1 k0 k1 (by omega) (by omega)
  · obtain ⟨x0, x1, y0, y1, l1⟩ := T.at k0 k1
    have e1 := drn (a := a) x0 x1 h0 h1 (by omega) (by omega)
    have e2 := drn (a := a) y0 y1 h0 h1 (by omega) (by omega)
    show 0 ≤ (if j = i then ab b a else _)
    split
    · unfold ab; split <;> omega
    · omega
theorem Dp_self {s : Pl} (hs : okP n ps s) : Dp ps d s s = 0 := by
  rcases ok_cases hs with ⟨r, rfl, r0, r1⟩ | ⟨j, b, rfl, k0, k1, b0, b1⟩
  · exact T.zero r
  · show (if j = j then ab b b else _) = 0
    rw [if_pos rfl]
    unfold ab; split <;> omega
theorem Dp_par {s : Pl} (hs : okP n ps s) {p : Pl} (hp : okP n ps p) (ne : p ≠ s) : ∃ q, Adj ps p q ∧ Dp ps d s p = Dp ps d s q + 1 := by
  rcases ok_cases hp with ⟨t, rfl, t0, t1⟩ | ⟨i, a, rfl, h0, h1, a0, a1⟩
  · obtain ⟨i, h0, h1, h⟩ := door_ex T hs t0 t1 (Ne.symm ne)
    obtain ⟨f0, f1, _, f⟩ := foot_at T hs h0 h1
    have l1 := (T.at h0 h1).2.2.2.2
    rcases h with ⟨e, g⟩ | ⟨e, g⟩
    · refine ⟨nm ps i 1, ⟨i, 0, h0, h1, by omega, by omega, .inl ⟨by rw [nm_0, e], rfl⟩⟩, ?_⟩
      have e1 := f 0 (by omega) (by omega)
      have e2 := f 1 (by omega) (by omega)
      rw [nm_0, e] at e1
      unfold ab at e1 e2
      split at e1 <;> split at e2 <;> omega
    · refine ⟨nm ps i ((pr ps i).l - 1), ⟨i, (pr ps i).l - 1, h0, h1, by omega, by omega, .inr ⟨rfl, by rw [show (pr ps i).l - 1 + 1 = (pr ps i).l by omega, nm_l (by omega), e]⟩⟩, ?_⟩
      have e1 := f (pr ps i).l (by omega) (by omega)
      have e2 := f ((pr ps i).l - 1) (by omega) (by omega)
      rw [nm_l (by omega), e] at e1
      unfold ab at e1 e2
      split at e1 <;> split at e2 <;> omega
  · obtain ⟨f0, f1, f2, f⟩ := foot_at T hs h0 h1
    have nf : foot ps d s i ≠ a := fun z => ne (by rw [f2 (by omega) (by omega), z])
    have pe : nm ps i a = [i, a] := nm_mid (by omega) (by omega)
    have e1 := f a (by omega) (by omega)
    rw [pe] at e1
    by_cases c : foot ps d s i < a
    · refine ⟨nm ps i (a - 1), ⟨i, a - 1, h0, h1, by omega, by omega, .inr ⟨rfl, by rw [show a - 1 + 1 = a by omega, pe]⟩⟩, ?_⟩
      have e2 := f (a - 1) (by omega) (by omega)
      unfold ab at e1 e2
      split at e1 <;> split at e2 <;> omega
    · refine ⟨nm ps i (a + 1), ⟨i, a, h0, h1, by omega, by omega, .inl ⟨pe.symm, rfl⟩⟩, ?_⟩
      have e2 := f (a + 1) (by omega) (by omega)
      unfold ab at e1 e2
      split at e1 <;> split at e2 <;> omega
/-! a next place of a room, nearer to the source: by which door -/
theorem near_door {s : Pl} (hs : okP n ps s) {t : Int} {q : Pl} (h : Adj ps [t] q) (hd : Dp ps d s [t] = Dp ps d s q + 1) : ∃ i, Door ps d s t i ∧ (((pr ps i).x = t ∧ q = nm ps i 1) ∨ ((pr ps i).y = t ∧ q = nm ps i ((pr ps i).l - 1))) := by
  obtain ⟨i, a, h0, h1, a0, a1, h⟩ := h
  obtain ⟨f0, f1, _, f⟩ := foot_at T hs h0 h1
  have e1 := f a a0 (by omega)
  have e2 := f (a + 1) (by omega) (by omega)
  rcases h with ⟨hp, rfl⟩ | ⟨rfl, hp⟩
  · rw [← hp] at e1
    rcases nm_one hp.symm with ⟨z, ex⟩ | ⟨z, _⟩
    · subst z
      refine ⟨i, ⟨h0, h1, .inl ⟨ex, fun w => ?_⟩⟩, .inl ⟨ex, rfl⟩⟩
      rw [w] at e1 e2
      unfold ab at e1 e2
      split at e1 <;> split at e2 <;> omega
    · omega
  · rw [← hp] at e2
    rcases nm_one hp.symm with ⟨z, _⟩ | ⟨z, ey⟩
    · omega
    · have ea : a = (pr ps i).l - 1 := by omega
      refine ⟨i, ⟨h0, h1, .inr ⟨ey, fun w => ?_⟩⟩, .inr ⟨ey, by rw [ea]⟩⟩
      rw [w] at e1 e2
      unfold ab at e1 e2
      split at e1 <;> split at e2 <;> omega
/-! a next place of a place within a pipe -/
theorem near_mid {i a : Int} (a0 : 1 ≤ a) (a1 : a ≤ (pr ps i).l - 1) {q : Pl} (h : Adj ps [i, a] q) : q = nm ps i (a - 1) ∨ q = nm ps i (a + 1) := by
  obtain ⟨j, b, h0, h1, b0, b1, h⟩ := h
  rcases h with ⟨hp, rfl⟩ | ⟨rfl, hp⟩
  · obtain ⟨e1, e2, _, _⟩ := nm_two hp.symm
    subst e1 e2
    exact .inr rfl
  · obtain ⟨e1, e2, _, _⟩ := nm_two hp.symm
    subst e1
    left
    rw [← e2, show b + 1 - 1 = b by omega]
theorem Dp_uni {s : Pl} (hs : okP n ps s) {p : Pl} (hp : okP n ps p) {q q' : Pl} (h : Adj ps p q) (h' : Adj ps p q') (e : Dp ps d s p = Dp ps d s q + 1) (e' : Dp ps d s p = Dp ps d s q' + 1) : q = q' := by
  rcases ok_cases hp with ⟨t, rfl, t0, t1⟩ | ⟨i, a, rfl, h0, h1, a0, a1⟩
  · obtain ⟨i, d1, c1⟩ := near_door T hs h e
    obtain ⟨i', d2, c2⟩ := near_door T hs h' e'
    have ii := door_uni T hs t0 t1 d1 d2
    subst ii
    have o := (T.own d1.1 d1.2.1).2.2
    rcases c1 with ⟨a1, a2⟩ | ⟨a1, a2⟩ <;> rcases c2 with ⟨b1, b2⟩ | ⟨b1, b2⟩
    · rw [a2, b2]
    · exact absurd (a1.trans b1.symm) o
    · exact absurd (b1.trans a1.symm) o
    · rw [a2, b2]
  · obtain ⟨f0, f1, f2, f⟩ := foot_at T hs h0 h1
    have pe : nm ps i a = [i, a] := nm_mid (by omega) (by omega)
    have g1 := f a (by omega) (by omega)
    have g2 := f (a - 1) (by omega) (by omega)
    have g3 := f (a + 1) (by omega) (by omega)
    rw [pe] at g1
    rcases near_mid T a0 a1 h with rfl | rfl <;> rcases near_mid T a0 a1 h' with rfl | rfl
    · rfl
    · unfold ab at g1 g2 g3; split at g1 <;> split at g2 <;> split at g3 <;> omega
    · unfold ab at g1 g2 g3; split at g1 <;> split at g2 <;> split at g3 <;> omega
    · rfl
theorem ok_adj {p q : Pl} (h : Adj ps p q) : okP n ps q := by
  obtain ⟨i, a, h0, h1, a0, a1, h⟩ := h
  rcases h with ⟨_, rfl⟩ | ⟨rfl, _⟩
  · exact ok_nm T h0 h1 (by omega) (by omega)
  · exact ok_nm T h0 h1 (by omega) (by omega)
theorem Tm.places {s : Pl} (hs : okP n ps s) : Sr s (okP n ps) (Dp ps d s) (fun p q w => Adj ps p q ∧ w = 1) where
  zero := Dp_self T hs
  here := hs
  nn := fun v h => Dp_nn T hs h
  wt := fun u v w _ h => by rw [h.2]; exact Int.le_refl 1
  cl := fun u v w _ h => ok_adj T h.1
  sym := fun u v w h => ⟨h.1.symm, h.2⟩
  step := fun u v w _ h => by rw [h.2]; exact Dp_step T hs h.1
  par := fun v hv ne => by
    obtain ⟨q, h1, h2⟩ := Dp_par T hs hv ne
    exact ⟨q, 1, ⟨h1, rfl⟩, h2⟩
  uni := fun v u w u' w' hv h h' e e' => by
    rw [h.2] at e
    rw [h'.2] at e'
    exact Dp_uni T hs hv h.1 h'.1 e e'
end
end Rw

namespace Rw
/-! ### distances of places are a metric; what lies on the row between two -/
section
variable {n : Int} {ps : List Pi} {d : Int → Int → Int} (T : Tm n ps d)
include T
theorem Dp_sym {p q : Pl} (hp : okP n ps p) (hq : okP n ps q) : Dp ps d p q = Dp ps d q p := by
  rcases ok_cases hp with ⟨r, rfl, r0, r1⟩ | ⟨i, b, rfl, h0, h1, b0, b1⟩ <;> rcases ok_cases hq with ⟨t, rfl, t0, t1⟩ | ⟨j, a, rfl, k0, k1, a0, a1⟩
  · exact T.sym r t
  · rfl
  · rfl
  · show (if i = j then ab b a else min (b + dr ps d (pr ps i).x j a) ((pr ps i).l - b + dr ps d (pr ps i).y j a)) = (if j = i then ab a b else min (a + dr ps d (pr ps j).x i b) ((pr ps j).l - a + dr ps d (pr ps j).y i b))
    by_cases e : i = j
    · rw [if_pos e, if_pos e.symm]; unfold ab; split <;> split <;> omega
    · rw [if_neg e, if_neg (Ne.symm e)]
      unfold dr
      rw [T.sym (pr ps j).x (pr ps i).x, T.sym (pr ps j).x (pr ps i).y, T.sym (pr ps j).y (pr ps i).x, T.sym (pr ps j).y (pr ps i).y]
      omega
theorem Dp_eq0 {p q : Pl} (hp : okP n ps p) (hq : okP n ps q) (h : Dp ps d p q = 0) : p = q := by
  apply Classical.byContradiction
  intro ne
  obtain ⟨z, az, ez⟩ := Dp_par T hp hq (Ne.symm ne)
  have := Dp_nn T hp (ok_adj T az)
  omega
theorem Dp_pos {p q : Pl} (hp : okP n ps p) (hq : okP n ps q) (h : p ≠ q) : 1 ≤ Dp ps d p q := by
  have h1 := Dp_nn T hp hq
  by_cases e : Dp ps d p q = 0
  · exact absurd (Dp_eq0 T hp hq e) h
  · omega
theorem Dp_tri {x y : Pl} (hx : okP n ps x) (hy : okP n ps y) : ∀ (k : Nat) (z : Pl), okP n ps z → (Dp ps d y z).toNat = k → Dp ps d x z ≤ Dp ps d x y + Dp ps d y z
  | 0, z, hz, e => by
    have h1 := Dp_nn T hy hz
    have e0 := Dp_eq0 T hy hz (by omega)
    subst e0
    omega
  | k + 1, z, hz, e => by
    have h1 := Dp_nn T hy hz
    have ne : z ≠ y := fun w => by rw [w, Dp_self T hy] at e; cases e
    obtain ⟨u, au, eu⟩ := Dp_par T hy hz ne
    have ou := ok_adj T au
    have ih := Dp_tri hx hy k u ou (by omega)
    have st := Dp_step T hx au
    omega
theorem Dp_le {x y z : Pl} (hx : okP n ps x) (hy : okP n ps y) (hz : okP n ps z) : Dp ps d x z ≤ Dp ps d x y + Dp ps d y z := Dp_tri T hx hy _ z hz rfl
/-! on the row between two: the sums -/
def Btw (ps : List Pi) (d : Int → Int → Int) (x z y : Pl) : Prop := Dp ps d x y + Dp ps d y z = Dp ps d x z
/-! the one nearer to x, from z on: between y and z, too -/
theorem btw_par {x y z u : Pl} (hx : okP n ps x) (hy : okP n ps y) (hz : okP n ps z) (h : Btw ps d x z y) (ne : y ≠ z) (au : Adj ps z u) (eu : Dp ps d x z = Dp ps d x u + 1) : Btw ps d x u y ∧ Dp ps d y z = Dp ps d y u + 1 := by
  obtain ⟨w, aw, ew⟩ := Dp_par T hy hz (Ne.symm ne)
  have ow := ok_adj T aw
  have t := Dp_le T hx hy ow
  have s := Dp_step T hx aw
  unfold Btw at h
  have e : Dp ps d x z = Dp ps d x w + 1 := by omega
  have : u = w := Dp_uni T hx hz au aw eu e
  subst this
  exact ⟨by unfold Btw; omega, ew⟩
theorem btw_up {x y z u : Pl} (hx : okP n ps x) (hy : okP n ps y) (hz : okP n ps z) (h : Btw ps d x u y) (au : Adj ps z u) (eu : Dp ps d x z = Dp ps d x u + 1) : Btw ps d x z y := by
  have t := Dp_le T hx hy hz
  have s := Dp_step T hy au
  have ou := ok_adj T au
  unfold Btw at h ⊢
  have t2 := Dp_le T hx hy ou
  omega
theorem btw_refl {x z : Pl} (hx : okP n ps x) (hz : okP n ps z) : Btw ps d x z x ∧ Btw ps d x z z := by
  unfold Btw
  rw [Dp_self T hx, Dp_self T hz]
  omega
/-! two places on the row, as far from its beginning, are one -/
theorem btw_one {x y y' : Pl} (hx : okP n ps x) (hy : okP n ps y) (hy' : okP n ps y') : ∀ (k : Nat) (z : Pl), okP n ps z → (Dp ps d y z).toNat = k → Btw ps d x z y → Btw ps d x z y' → Dp ps d x y = Dp ps d x y' → y = y'
  | 0, z, hz, e, h, h', ed => by
    have h1 := Dp_nn T hy hz
    have h2 := Dp_nn T hy' hz
    unfold Btw at h h'
    rw [Dp_eq0 T hy hz (by omega), Dp_eq0 T hy' hz (by omega)]
  | k + 1, z, hz, e, h, h', ed => by
    have h1 := Dp_nn T hy hz
    have h2 := Dp_nn T hy' hz
    have b1 : y ≠ z := fun w => by rw [w, Dp_self T hz] at e; cases e
    have b2 : y' ≠ z := fun w => by
      unfold Btw at h h'
      rw [w, Dp_self T hz] at h'
      have := Dp_eq0 T hy hz (by rw [w] at ed; omega)
      exact b1 this
    have nx : z ≠ x := fun w => by
      unfold Btw at h
      rw [w, Dp_self T hx] at h
      have := Dp_nn T hx hy
      have := Dp_nn T hy hx
      rw [w] at h1
      exact b1 (by rw [w]; exact Dp_eq0 T hy hx (by omega))
    obtain ⟨u, au, eu⟩ := Dp_par T hx hz nx
    have p1 := btw_par T hx hy hz h b1 au eu
    have p2 := btw_par T hx hy' hz h' b2 au eu
    exact btw_one hx hy hy' k u (ok_adj T au) (by omega) p1.1 p2.1 ed
end
end Rw

namespace Rw
/-! ### steps, one by one -/
def AdjTo (ps : List Pi) (i k : Int) (p q : Pl) : Prop := ∃ j a : Int, 0 ≤ j ∧ (j < i ∧ 0 ≤ a ∧ a < (pr ps j).l ∨ j = i ∧ 0 ≤ a ∧ a < k) ∧ ((p = nm ps j a ∧ q = nm ps j (a + 1)) ∨ (q = nm ps j a ∧ p = nm ps j (a + 1)))
theorem AdjTo.all {ps : List Pi} {p q : Pl} : AdjTo ps ps.length 0 p q ↔ Adj ps p q := by
  constructor
  · rintro ⟨j, a, h0, h | h, r⟩
    · exact ⟨j, a, h0, h.1, h.2.1, h.2.2, r⟩
    · omega
  · rintro ⟨j, a, h0, h1, h2, h3, r⟩
    exact ⟨j, a, h0, .inl ⟨h1, h2, h3⟩, r⟩
theorem AdjTo.next {ps : List Pi} {i : Int} (hi : 0 ≤ i) {p q : Pl} : AdjTo ps i (pr ps i).l p q ↔ AdjTo ps (i + 1) 0 p q := by
  constructor
  · rintro ⟨j, a, h0, h | h, r⟩
    · exact ⟨j, a, h0, .inl ⟨by omega, h.2.1, h.2.2⟩, r⟩
    · exact ⟨j, a, h0, .inl ⟨by omega, h.2.1, by rw [h.1]; exact h.2.2⟩, r⟩
  · rintro ⟨j, a, h0, h | h, r⟩
    · by_cases e : j = i
      · exact ⟨j, a, h0, .inr ⟨e, h.2.1, by rw [← e]; exact h.2.2⟩, r⟩
      · exact ⟨j, a, h0, .inl ⟨by omega, h.2.1, h.2.2⟩, r⟩
    · omega
theorem AdjTo.step {ps : List Pi} {i k : Int} (hi : 0 ≤ i) (hk : 0 ≤ k) {p q : Pl} : AdjTo ps i (k + 1) p q ↔ (AdjTo ps i k p q ∨ (p = nm ps i k ∧ q = nm ps i (k + 1))) ∨ (p = nm ps i (k + 1) ∧ q = nm ps i k) := by
  constructor
  · rintro ⟨j, a, h0, h | h, r⟩
    · exact .inl (.inl ⟨j, a, h0, .inl h, r⟩)
    · by_cases e : a = k
      · obtain ⟨rfl, _⟩ := h
        subst e
        rcases r with ⟨r1, r2⟩ | ⟨r1, r2⟩
        · exact .inl (.inr ⟨r1, r2⟩)
        · exact .inr ⟨r2, r1⟩
      · exact .inl (.inl ⟨j, a, h0, .inr ⟨h.1, h.2.1, by omega⟩, r⟩)
  · rintro ((⟨j, a, h0, h | h, r⟩ | ⟨r1, r2⟩) | ⟨r1, r2⟩)
    · exact ⟨j, a, h0, .inl h, r⟩
    · exact ⟨j, a, h0, .inr ⟨h.1, h.2.1, by omega⟩, r⟩
    · exact ⟨i, k, hi, .inr ⟨rfl, hk, by omega⟩, .inl ⟨r1, r2⟩⟩
    · exact ⟨i, k, hi, .inr ⟨rfl, hk, by omega⟩, .inr ⟨r2, r1⟩⟩
section
variable {n : Int} {ps : List Pi} {d : Int → Int → Int} (T : Tm n ps d)
include T
theorem nm_inj {i a b : Int} (h0 : 0 ≤ i) (h1 : i < ps.length) (a0 : 0 ≤ a) (a1 : a ≤ (pr ps i).l) (b0 : 0 ≤ b) (b1 : b ≤ (pr ps i).l) (h : nm ps i a = nm ps i b) : a = b := by
  have o := (T.own h0 h1).2.2
  have l1 := (T.at h0 h1).2.2.2.2
  by_cases ea : a = 0
  · subst ea
    rw [nm_0] at h
    rcases nm_one h.symm with ⟨z, _⟩ | ⟨_, z⟩
    · exact z.symm
    · exact absurd z.symm o
  · by_cases el : a = (pr ps i).l
    · rw [el, nm_l (by omega)] at h
      rcases nm_one h.symm with ⟨_, z⟩ | ⟨z, _⟩
      · exact absurd z o
      · rw [el, z]
    · rw [nm_mid ea el] at h
      obtain ⟨_, z, _, _⟩ := nm_two h.symm
      exact z.symm
/-! one step has one name -/
theorem step_one {i a j b : Int} (h0 : 0 ≤ i) (h1 : i < ps.length) (a0 : 0 ≤ a) (a1 : a < (pr ps i).l) (k0 : 0 ≤ j) (k1 : j < ps.length) (b0 : 0 ≤ b) (b1 : b < (pr ps j).l)
    (h : (nm ps i a = nm ps j b ∧ nm ps i (a + 1) = nm ps j (b + 1)) ∨ (nm ps i a = nm ps j (b + 1) ∧ nm ps i (a + 1) = nm ps j b)) : i = j ∧ a = b := by
  have same : i = j → a = b := fun e => by
    subst e
    rcases h with ⟨z, _⟩ | ⟨z1, z2⟩
    · exact nm_inj T h0 h1 a0 (by omega) b0 (by omega) z
    · have w1 := nm_inj T h0 h1 a0 (by omega) (by omega) (by omega) z1
      have w2 := nm_inj T h0 h1 (by omega) (by omega) b0 (by omega) z2
      omega
  suffices i = j from ⟨this, same this⟩
  by_cases e0 : a = 0
  · by_cases e1 : a + 1 = (pr ps i).l
    · -- a pipe of one step
      subst e0
      have x1 : nm ps i 0 = [(pr ps i).x] := nm_0 ps i
      have x2 : nm ps i (0 + 1) = [(pr ps i).y] := by rw [e1, nm_l (by omega)]
      rw [x1, x2] at h
      have ob : b = 0 ∧ b + 1 = (pr ps j).l := by
        rcases h with ⟨z1, z2⟩ | ⟨z1, z2⟩
        · rcases nm_one z1.symm with ⟨w, _⟩ | ⟨w, _⟩ <;> rcases nm_one z2.symm with ⟨u, _⟩ | ⟨u, _⟩ <;> omega
        · rcases nm_one z1.symm with ⟨w, _⟩ | ⟨w, _⟩ <;> rcases nm_one z2.symm with ⟨u, _⟩ | ⟨u, _⟩ <;> omega
      obtain ⟨rfl, ob⟩ := ob
      have y1 : nm ps j 0 = [(pr ps j).x] := nm_0 ps j
      have y2 : nm ps j (0 + 1) = [(pr ps j).y] := by rw [ob, nm_l (by omega)]
      rw [y1, y2] at h
      obtain ⟨p0, p1, p2, p3, _⟩ := T.at h0 h1
      have o1 := (T.own h0 h1).1
      have z0 := T.zero (pr ps i).x
      have d1 : Dn ps d (pr ps i).x (pr ps i).y i.toNat := ⟨_, (pr_mem h0 h1).2, .inr ⟨rfl, by omega⟩⟩
      have d2 : Dn ps d (pr ps i).x (pr ps i).y j.toNat := by
        refine ⟨_, (pr_mem k0 k1).2, ?_⟩
        rcases h with ⟨z1, z2⟩ | ⟨z1, z2⟩
        · have w1 : (pr ps i).x = (pr ps j).x := by simpa using z1
          have w2 : (pr ps i).y = (pr ps j).y := by simpa using z2
          exact .inr ⟨w2.symm, by rw [← w1]; omega⟩
        · have w1 : (pr ps i).x = (pr ps j).y := by simpa using z1
          have w2 : (pr ps i).y = (pr ps j).x := by simpa using z2
          exact .inl ⟨w2.symm, by rw [← w1]; omega⟩
      have := T.uni _ _ _ _ p0 p1 p2 p3 d1 d2
      omega
    · have m : nm ps i (a + 1) = [i, a + 1] := nm_mid (by omega) e1
      rw [m] at h
      rcases h with ⟨_, z⟩ | ⟨_, z⟩
      · exact (nm_two z.symm).1.symm
      · exact (nm_two z.symm).1.symm
  · have m : nm ps i a = [i, a] := nm_mid e0 (by omega)
    rw [m] at h
    rcases h with ⟨z, _⟩ | ⟨z, _⟩
    · exact (nm_two z.symm).1.symm
    · exact (nm_two z.symm).1.symm
theorem not_yet {i k : Int} (h0 : 0 ≤ i) (h1 : i < ps.length) (k0 : 0 ≤ k) (k1 : k < (pr ps i).l) : ¬ AdjTo ps i k (nm ps i k) (nm ps i (k + 1)) := by
  rintro ⟨j, a, j0, h | h, r⟩
  · have z := step_one T h0 h1 k0 k1 j0 (by omega) h.2.1 h.2.2 (r.elim (fun w => .inl w) (fun w => .inr ⟨w.2, w.1⟩))
    omega
  · obtain ⟨rfl, a0, a1⟩ := h
    have z := step_one T h0 h1 k0 k1 h0 h1 a0 (by omega) (r.elim (fun w => .inl w) (fun w => .inr ⟨w.2, w.1⟩))
    omega
theorem AdjTo.sym' {i k : Int} {p q : Pl} (h : AdjTo ps i k p q) : AdjTo ps i k q p := by
  obtain ⟨j, a, h0, h1, r⟩ := h
  exact ⟨j, a, h0, h1, r.symm⟩
theorem nm_next {i k : Int} (h0 : 0 ≤ i) (h1 : i < ps.length) (k0 : 0 ≤ k) (k1 : k < (pr ps i).l) : nm ps i k ≠ nm ps i (k + 1) := fun z => by
  have := nm_inj T h0 h1 k0 (by omega) (by omega) (by omega) z
  omega
end
end Rw

namespace Rw
/-! ### rows of places, piece by piece: a piece is [pipe, begin, stop] -/
def plen (c : List Int) : Int := ab (c.getD 1 0) (c.getD 2 0)
def pat (c : List Int) (k : Int) : Int := if c.getD 1 0 < c.getD 2 0 then c.getD 1 0 + k else c.getD 1 0 - k
def ptot : List (List Int) → Int
  | [] => 0
  | c :: r => plen c + ptot r
def PcOk (ps : List Pi) (c : List Int) : Prop := ∃ i b e : Int, c = [i, b, e] ∧ 0 ≤ i ∧ i < ps.length ∧ 0 ≤ b ∧ b ≤ (pr ps i).l ∧ 0 ≤ e ∧ e ≤ (pr ps i).l
def beg (ps : List Pi) (c : List Int) : Pl := nm ps (c.getD 0 0) (c.getD 1 0)
def fin' (ps : List Pi) (c : List Int) : Pl := nm ps (c.getD 0 0) (c.getD 2 0)
inductive Chn (ps : List Pi) : Pl → List (List Int) → Pl → Prop
  | nil (p : Pl) : Chn ps p [] p
  | cons {c : List Int} {r : List (List Int)} {q : Pl} : PcOk ps c → Chn ps (fin' ps c) r q → Chn ps (beg ps c) (c :: r) q
theorem Chn.snoc {ps : List Pi} {p q : Pl} {r : List (List Int)} (h : Chn ps p r q) : ∀ {c : List Int}, PcOk ps c → q = beg ps c → Chn ps p (r ++ [c]) (fin' ps c) := by
  induction h with
  | nil p =>
    intro c ok e
    subst e
    exact .cons ok (.nil _)
  | cons ok' _ ih =>
    intro c ok e
    exact .cons ok' (ih ok e)
theorem ptot_snoc (r : List (List Int)) (c : List Int) : ptot (r ++ [c]) = ptot r + plen c := by
  induction r with
  | nil => show plen c + 0 = 0 + plen c; omega
  | cons a r ih => show plen a + ptot (r ++ [c]) = plen a + ptot r + plen c; rw [ih]; omega
def along (ps : List Pi) : List (List Int) → Int → Pl
  | [], _ => []
  | [c], k => nm ps (c.getD 0 0) (pat c k)
  | c :: r, k => if k ≤ plen c then nm ps (c.getD 0 0) (pat c k) else along ps r (k - plen c)
section
variable {n : Int} {ps : List Pi} {d : Int → Int → Int} (T : Tm n ps d)
include T
theorem nm_dist {i a b : Int} (h0 : 0 ≤ i) (h1 : i < ps.length) (a0 : 0 ≤ a) (a1 : a ≤ (pr ps i).l) (b0 : 0 ≤ b) (b1 : b ≤ (pr ps i).l) : Dp ps d (nm ps i a) (nm ps i b) = ab a b := by
  have oa := ok_nm T h0 h1 a0 a1
  obtain ⟨f0, f1, _, f⟩ := foot_at T oa h0 h1
  have e1 := f a a0 a1
  have e2 := f b b0 b1
  rw [Dp_self T oa] at e1
  have nn := Dp_nn T oa (ok_nm T h0 h1 f0 f1)
  unfold ab at *
  split at e1 <;> split at e2 <;> split <;> omega
theorem chn_ok {p q : Pl} {r : List (List Int)} (h : Chn ps p r q) (hq : okP n ps q) : okP n ps p := by
  cases h with
  | nil => exact hq
  | cons ok _ =>
    obtain ⟨i, b, e, rfl, h0, h1, b0, b1, e0, e1⟩ := ok
    exact ok_nm T h0 h1 b0 b1
theorem plen_nn {c : List Int} : 0 ≤ plen c := by unfold plen ab; split <;> omega
theorem chn_le {p q : Pl} {r : List (List Int)} (h : Chn ps p r q) (hq : okP n ps q) : Dp ps d p q ≤ ptot r := by
  induction h with
  | nil p => rw [Dp_self T hq]; exact Int.le_refl 0
  | @cons c r q ok h ih =>
    have okr := chn_ok T h hq
    have i1 := ih hq
    obtain ⟨i, b, e, rfl, h0, h1, b0, b1, e0, e1⟩ := ok
    have okp := ok_nm T h0 h1 b0 b1
    have t := Dp_le T okp okr hq
    have ed : Dp ps d (nm ps i b) (nm ps i e) = ab b e := nm_dist T h0 h1 b0 b1 e0 e1
    show Dp ps d (nm ps i b) q ≤ ab b e + ptot r
    have t' : Dp ps d (nm ps i b) q ≤ Dp ps d (nm ps i b) (nm ps i e) + Dp ps d (nm ps i e) q := t
    have i1' : Dp ps d (nm ps i e) q ≤ ptot r := i1
    omega
/-! within a piece -/
theorem pat_in {i b e k : Int} (h0 : 0 ≤ i) (h1 : i < ps.length) (b0 : 0 ≤ b) (b1 : b ≤ (pr ps i).l) (e0 : 0 ≤ e) (e1 : e ≤ (pr ps i).l) (k0 : 0 ≤ k) (k1 : k ≤ ab b e) :
    okP n ps (nm ps i (pat [i, b, e] k)) ∧ Dp ps d (nm ps i b) (nm ps i (pat [i, b, e] k)) = k ∧ Dp ps d (nm ps i (pat [i, b, e] k)) (nm ps i e) = ab b e - k := by
  have ep : pat [i, b, e] k = if b < e then b + k else b - k := rfl
  have r0 : 0 ≤ pat [i, b, e] k := by rw [ep]; unfold ab at k1; split at k1 <;> split <;> omega
  have r1 : pat [i, b, e] k ≤ (pr ps i).l := by rw [ep]; unfold ab at k1; split at k1 <;> split <;> omega
  refine ⟨ok_nm T h0 h1 r0 r1, ?_, ?_⟩
  · rw [nm_dist T h0 h1 b0 b1 r0 r1, ep]
    unfold ab at *
    split at k1 <;> split <;> split <;> omega
  · rw [nm_dist T h0 h1 r0 r1 e0 e1, ep]
    unfold ab at *
    split at k1 <;> split <;> split <;> omega
theorem along_at {p q : Pl} {r : List (List Int)} (h : Chn ps p r q) : ∀ (hq : okP n ps q) (ht : ptot r = Dp ps d p q) {k : Int} (k0 : 1 ≤ k) (k1 : k ≤ ptot r),
    okP n ps (along ps r k) ∧ Dp ps d p (along ps r k) = k ∧ Dp ps d (along ps r k) q = ptot r - k := by
  induction h with
  | nil p =>
    intro hq ht k k0 k1
    have : ptot [] = 0 := rfl
    omega
  | @cons c r q ok h ih =>
    intro hq ht k k0 k1
    have okr := chn_ok T h hq
    have le := chn_le T h hq
    obtain ⟨i, b, e, rfl, h0, h1, b0, b1, e0, e1⟩ := ok
    have okp : okP n ps (nm ps i b) := ok_nm T h0 h1 b0 b1
    have ed : Dp ps d (nm ps i b) (nm ps i e) = ab b e := nm_dist T h0 h1 b0 b1 e0 e1
    have okr' : okP n ps (nm ps i e) := okr
    have le' : Dp ps d (nm ps i e) q ≤ ptot r := le
    have t := Dp_le T okp okr' hq
    have pt : ptot ([i, b, e] :: r) = ab b e + ptot r := rfl
    have ht' : ab b e + ptot r = Dp ps d (nm ps i b) q := ht
    have er : ptot r = Dp ps d (nm ps i e) q := by omega
    have near : k ≤ ab b e → okP n ps (nm ps i (pat [i, b, e] k)) ∧ Dp ps d (nm ps i b) (nm ps i (pat [i, b, e] k)) = k ∧ Dp ps d (nm ps i (pat [i, b, e] k)) q = ptot ([i, b, e] :: r) - k := fun c => by
      obtain ⟨z1, z2, z3⟩ := pat_in T h0 h1 b0 b1 e0 e1 (k := k) (by omega) c
      refine ⟨z1, z2, ?_⟩
      have t1 := Dp_le T z1 okr' hq
      have t2 := Dp_le T okp z1 hq
      omega
    cases r with
    | nil =>
      have pn : ptot [] = 0 := rfl
      exact near (by omega)
    | cons c2 r2 =>
      have ea : along ps ([i, b, e] :: c2 :: r2) k = if k ≤ plen [i, b, e] then nm ps i (pat [i, b, e] k) else along ps (c2 :: r2) (k - plen [i, b, e]) := rfl
      have pl : plen [i, b, e] = ab b e := rfl
      rw [ea, pl]
      by_cases c : k ≤ ab b e
      · rw [if_pos c]; exact near c
      · rw [if_neg c]
        obtain ⟨z1, z2, z3⟩ := ih hq er (k := k - ab b e) (by omega) (by omega)
        have z2' : Dp ps d (nm ps i e) (along ps (c2 :: r2) (k - ab b e)) = k - ab b e := z2
        refine ⟨z1, ?_, by omega⟩
        have t1 := Dp_le T okp okr' z1
        have t2 := Dp_le T okp z1 hq
        show Dp ps d (nm ps i b) _ = k
        have ht2 : Dp ps d (nm ps i b) q = ab b e + ptot (c2 :: r2) := ht'.symm
        omega
end
end Rw

namespace Rw
/-! ### a pipe made longer: distances -/
def setL (ps : List Pi) (i b : Int) : List Pi := ps.set i.toNat { pr ps i with l := (pr ps i).l + b }
theorem setL_len (ps : List Pi) (i b : Int) : (setL ps i b).length = ps.length := by unfold setL; rw [List.length_set]
theorem setL_at {ps : List Pi} {i b : Int} (h0 : 0 ≤ i) (h1 : i < ps.length) : (setL ps i b)[i.toNat]? = some { pr ps i with l := (pr ps i).l + b } := by
  unfold setL; rw [List.getElem?_set_self (by omega)]
theorem setL_ne {ps : List Pi} {i b : Int} {j : Nat} (h : j ≠ i.toNat) : (setL ps i b)[j]? = ps[j]? := by
  unfold setL; rw [List.getElem?_set_ne (Ne.symm h)]
theorem pr_setL {ps : List Pi} {i b j : Int} (h0 : 0 ≤ i) (h1 : i < ps.length) (k0 : 0 ≤ j) (k1 : j < ps.length) : pr (setL ps i b) j = if j = i then { pr ps i with l := (pr ps i).l + b } else pr ps j := by
  by_cases e : j = i
  · subst e
    rw [if_pos rfl]
    have z := pr_of (setL_at (b := b) h0 h1)
    rw [show ((j.toNat : Nat) : Int) = j by omega] at z
    exact z
  · rw [if_neg e]
    have z := pr_of (ps := setL ps i b) (j := j.toNat) (p := pr ps j) (by rw [setL_ne (by omega)]; exact (pr_mem k0 k1).2)
    rw [show ((j.toNat : Nat) : Int) = j by omega] at z
    exact z
/-! which rooms lie beyond the pipe's far end -/
def ysd (ps : List Pi) (d : Int → Int → Int) (i r : Int) : Bool := decide (d r (pr ps i).y < d r (pr ps i).x)
def d2 (ps : List Pi) (d : Int → Int → Int) (i b s t : Int) : Int := d s t + if ysd ps d i s = ysd ps d i t then 0 else b
section
variable {n : Int} {ps : List Pi} {d : Int → Int → Int} {i b : Int} (T : Tm n ps d) (h0 : 0 ≤ i) (h1 : i < ps.length) (hb : 0 ≤ b)
include T h0 h1
theorem ysd_x : ysd ps d i (pr ps i).x = false ∧ ysd ps d i (pr ps i).y = true := by
  obtain ⟨o1, o2, o3⟩ := T.own h0 h1
  have l1 := (T.at h0 h1).2.2.2.2
  have z1 := T.zero (pr ps i).x
  have z2 := T.zero (pr ps i).y
  unfold ysd
  exact ⟨decide_eq_false (by omega), decide_eq_true (by omega)⟩
theorem ysd_t {r : Int} (r0 : 0 ≤ r) (r1 : r < n) (h : ysd ps d i r = true) : d r (pr ps i).x = d r (pr ps i).y + (pr ps i).l := by
  have l1 := (T.at h0 h1).2.2.2.2
  have := of_decide_eq_true h
  have := T.stp h0 h1 r0 r1
  omega
theorem ysd_f {r : Int} (r0 : 0 ≤ r) (r1 : r < n) (h : ysd ps d i r = false) : d r (pr ps i).y = d r (pr ps i).x + (pr ps i).l := by
  have l1 := (T.at h0 h1).2.2.2.2
  have := of_decide_eq_false h
  have := T.stp h0 h1 r0 r1
  omega
theorem ysd_ends {j : Int} (k0 : 0 ≤ j) (k1 : j < ps.length) (ne : j ≠ i) : ysd ps d i (pr ps j).x = ysd ps d i (pr ps j).y := by
  have := T.sd h0 h1 k0 k1 ne
  unfold ysd
  exact decide_eq_decide.mpr (by omega)
theorem ysd_endsN {j : Nat} {p : Pi} (e : ps[j]? = some p) (ne : j ≠ i.toNat) : ysd ps d i p.x = ysd ps d i p.y := by
  have hj : j < ps.length := (List.getElem?_eq_some_iff.mp e).1
  have z := ysd_ends T h0 h1 (j := (j : Int)) (by omega) (by omega) (by omega)
  rw [pr_of e] at z; exact z
include hb
theorem dn_long {s t : Int} (s0 : 0 ≤ s) (s1 : s < n) {j : Nat} : Dn (setL ps i b) (d2 ps d i b) s t j ↔ Dn ps d s t j := by
  by_cases ej : j = i.toNat
  · subst ej
    obtain ⟨yx, yy⟩ := ysd_x T h0 h1
    have l1 := (T.at h0 h1).2.2.2.2
    have key : ((pr ps i).x = t ∧ d2 ps d i b s (pr ps i).y + ((pr ps i).l + b) = d2 ps d i b s t ∨ (pr ps i).y = t ∧ d2 ps d i b s (pr ps i).x + ((pr ps i).l + b) = d2 ps d i b s t) ↔
        ((pr ps i).x = t ∧ d s (pr ps i).y + (pr ps i).l = d s t ∨ (pr ps i).y = t ∧ d s (pr ps i).x + (pr ps i).l = d s t) := by
      unfold d2
      rw [yx, yy]
      cases hs : ysd ps d i s with
      | true =>
        have q := ysd_t T h0 h1 s0 s1 hs
        constructor
        · rintro (⟨rfl, z⟩ | ⟨rfl, z⟩)
          · rw [yx] at z; simp at z; exact .inl ⟨rfl, by omega⟩
          · rw [yy] at z; simp at z; exact .inr ⟨rfl, by omega⟩
        · rintro (⟨rfl, z⟩ | ⟨rfl, z⟩)
          · rw [yx]; simp; exact .inl (by omega)
          · exfalso; omega
      | false =>
        have q := ysd_f T h0 h1 s0 s1 hs
        constructor
        · rintro (⟨rfl, z⟩ | ⟨rfl, z⟩)
          · rw [yx] at z; simp at z; exfalso; omega
          · rw [yy] at z; simp at z; exact .inr ⟨rfl, by omega⟩
        · rintro (⟨rfl, z⟩ | ⟨rfl, z⟩)
          · exfalso; omega
          · rw [yy]; simp; exact .inr (by omega)
    constructor
    · rintro ⟨p, e, h⟩
      rw [setL_at h0 h1] at e
      cases e
      exact ⟨_, (pr_mem h0 h1).2, key.mp h⟩
    · rintro ⟨p, e, h⟩
      rw [(pr_mem h0 h1).2] at e
      cases e
      exact ⟨_, setL_at h0 h1, key.mpr h⟩
  · constructor
    · rintro ⟨p, e, h⟩
      rw [setL_ne ej] at e
      have en := ysd_endsN T h0 h1 e ej
      refine ⟨p, e, ?_⟩
      unfold d2 at h
      rcases h with ⟨rfl, z⟩ | ⟨rfl, z⟩
      · rw [en] at z; exact .inl ⟨rfl, by omega⟩
      · rw [en] at z; exact .inr ⟨rfl, by omega⟩
    · rintro ⟨p, e, h⟩
      have en := ysd_endsN T h0 h1 e ej
      refine ⟨p, by rw [setL_ne ej]; exact e, ?_⟩
      unfold d2
      rcases h with ⟨rfl, z⟩ | ⟨rfl, z⟩
      · rw [en]; exact .inl ⟨rfl, by omega⟩
      · rw [en]; exact .inr ⟨rfl, by omega⟩
theorem Tm.long : Tm n (setL ps i b) (d2 ps d i b) := by
  obtain ⟨yx, yy⟩ := ysd_x T h0 h1
  have hat := T.at h0 h1
  have look : ∀ {j : Nat} {p : Pi}, (setL ps i b)[j]? = some p → (j = i.toNat ∧ p = { pr ps i with l := (pr ps i).l + b }) ∨ (j ≠ i.toNat ∧ ps[j]? = some p) := fun {j p} e => by
    by_cases ej : j = i.toNat
    · subst ej; rw [setL_at h0 h1] at e; exact .inl ⟨rfl, (Option.some.inj e).symm⟩
    · rw [setL_ne ej] at e; exact .inr ⟨ej, e⟩
  have mem : ∀ {p : Pi}, p ∈ setL ps i b → ∃ j, (setL ps i b)[j]? = some p := fun {p} m => by
    obtain ⟨j, hj, e⟩ := List.mem_iff_getElem.mp m
    exact ⟨j, by rw [List.getElem?_eq_getElem hj, e]⟩
  refine ⟨fun p m => ?_, fun s => ?_, fun s t => ?_, fun s t a1 a2 a3 a4 ne => ?_, fun p m s a1 a2 => ?_, fun s t a1 a2 a3 a4 ne => ?_, fun s t j k a1 a2 a3 a4 e1 e2 => ?_, fun j k p q ne e1 e2 => ?_⟩
  · obtain ⟨j, e⟩ := mem m
    rcases look e with ⟨_, rfl⟩ | ⟨_, e⟩
    · exact ⟨hat.1, hat.2.1, hat.2.2.1, hat.2.2.2.1, by show 1 ≤ (pr ps i).l + b; omega⟩
    · exact T.ok p (List.mem_of_getElem? e)
  · unfold d2; rw [if_pos rfl, T.zero]; rfl
  · unfold d2
    rw [T.sym s t]
    by_cases h : ysd ps d i s = ysd ps d i t
    · rw [if_pos h, if_pos h.symm]
    · rw [if_neg h, if_neg (Ne.symm h)]
  · have := T.pos s t a1 a2 a3 a4 ne
    unfold d2; split <;> omega
  · obtain ⟨j, e⟩ := mem m
    rcases look e with ⟨_, rfl⟩ | ⟨ej, e⟩
    · show d2 ps d i b s (pr ps i).x = d2 ps d i b s (pr ps i).y + ((pr ps i).l + b) ∨ d2 ps d i b s (pr ps i).y = d2 ps d i b s (pr ps i).x + ((pr ps i).l + b)
      unfold d2
      rw [yx, yy]
      cases hs : ysd ps d i s with
      | true => have q := ysd_t T h0 h1 a1 a2 hs; simp; omega
      | false => have q := ysd_f T h0 h1 a1 a2 hs; simp; omega
    · have en := ysd_endsN T h0 h1 e ej
      have st := T.step p (List.mem_of_getElem? e) s a1 a2
      unfold d2
      rw [en]; omega
  · obtain ⟨j, hj⟩ := T.par s t a1 a2 a3 a4 ne
    exact ⟨j, (dn_long T h0 h1 hb a1 a2).mpr hj⟩
  · exact T.uni s t j k a1 a2 a3 a4 ((dn_long T h0 h1 hb a1 a2).mp e1) ((dn_long T h0 h1 hb a1 a2).mp e2)
  · rcases look e1 with ⟨j1, rfl⟩ | ⟨j1, f1⟩ <;> rcases look e2 with ⟨k1, rfl⟩ | ⟨k1, f2⟩
    · exact absurd (j1.trans k1.symm) ne
    · have en := ysd_endsN T h0 h1 f2 k1
      have sd := T.side j k _ q ne (by rw [j1]; exact (pr_mem h0 h1).2) f2
      show d2 ps d i b (pr ps i).x q.x - d2 ps d i b (pr ps i).y q.x = d2 ps d i b (pr ps i).x q.y - d2 ps d i b (pr ps i).y q.y
      unfold d2
      rw [en]; omega
    · have en := ysd_endsN T h0 h1 f1 j1
      have sd := T.side j k p _ ne f1 (by rw [k1]; exact (pr_mem h0 h1).2)
      show d2 ps d i b p.x (pr ps i).x - d2 ps d i b p.y (pr ps i).x = d2 ps d i b p.x (pr ps i).y - d2 ps d i b p.y (pr ps i).y
      unfold d2
      rw [en]; omega
    · have en1 := ysd_endsN T h0 h1 f1 j1
      have en2 := ysd_endsN T h0 h1 f2 k1
      have sd := T.side j k p q ne f1 f2
      unfold d2
      rw [en1, en2]; omega
end
/-! the same of places -/
def ysP (ps : List Pi) (d : Int → Int → Int) (i : Int) : Pl → Bool
  | [r] => ysd ps d i r
  | [j, _] => if j = i then false else ysd ps d i (pr ps j).x
  | _ => false
section
variable {n : Int} {ps : List Pi} {d : Int → Int → Int} {i b : Int} (T : Tm n ps d) (h0 : 0 ≤ i) (h1 : i < ps.length) (hb : 0 ≤ b)
include T h0 h1 hb
theorem ok_long {p : Pl} (hp : okP n ps p) : okP n (setL ps i b) p := by
  rcases ok_cases hp with ⟨r, rfl, r0, r1⟩ | ⟨j, a, rfl, k0, k1, a0, a1⟩
  · exact ⟨r0, r1⟩
  · refine ⟨k0, by rw [setL_len]; exact k1, a0, ?_⟩
    rw [pr_setL h0 h1 k0 k1]
    split
    · rename_i e; subst e; show a ≤ (pr ps j).l + b - 1; omega
    · exact a1
theorem dr_long {r j a : Int} (r0 : 0 ≤ r) (r1 : r < n) (k0 : 0 ≤ j) (k1 : j < ps.length) (a0 : 1 ≤ a) (a1 : a ≤ (pr ps j).l - 1) :
    dr (setL ps i b) (d2 ps d i b) r j a = dr ps d r j a + if ysd ps d i r = ysP ps d i [j, a] then 0 else b := by
  obtain ⟨yx, yy⟩ := ysd_x T h0 h1
  unfold dr
  rw [pr_setL h0 h1 k0 k1]
  by_cases e : j = i
  · subst e
    rw [if_pos rfl]
    show min (d2 ps d j b r (pr ps j).x + a) (d2 ps d j b r (pr ps j).y + ((pr ps j).l + b - a)) = _
    show _ = _ + if ysd ps d j r = (if j = j then false else _) then 0 else b
    rw [if_pos rfl]
    unfold d2
    rw [yx, yy]
    cases hs : ysd ps d j r with
    | true => have q := ysd_t T h0 h1 r0 r1 hs; simp; omega
    | false => have q := ysd_f T h0 h1 r0 r1 hs; simp; omega
  · rw [if_neg e]
    have en := ysd_ends T h0 h1 k0 k1 e
    show min (d2 ps d i b r (pr ps j).x + a) (d2 ps d i b r (pr ps j).y + ((pr ps j).l - a)) = _ + if ysd ps d i r = (if j = i then false else ysd ps d i (pr ps j).x) then 0 else b
    rw [if_neg e]
    unfold d2
    rw [en]; omega
theorem Dp_long {p q : Pl} (hp : okP n ps p) (hq : okP n ps q) : Dp (setL ps i b) (d2 ps d i b) p q = Dp ps d p q + if ysP ps d i p = ysP ps d i q then 0 else b := by
  rcases ok_cases hp with ⟨r, rfl, r0, r1⟩ | ⟨j, a, rfl, k0, k1, a0, a1⟩ <;> rcases ok_cases hq with ⟨t, rfl, t0, t1⟩ | ⟨k, c, rfl, m0, m1, c0, c1⟩
  · rfl
  · exact dr_long T h0 h1 hb r0 r1 m0 m1 c0 c1
  · show dr _ _ t j a = dr ps d t j a + _
    rw [dr_long T h0 h1 hb t0 t1 k0 k1 a0 a1]
    show _ + (if ysd ps d i t = _ then 0 else b) = _ + (if _ = ysd ps d i t then 0 else b)
    by_cases z : ysd ps d i t = ysP ps d i [j, a]
    · rw [if_pos z, if_pos z.symm]
    · rw [if_neg z, if_neg (Ne.symm z)]
  · show (if j = k then ab a c else _) = (if j = k then ab a c else _) + _
    by_cases e : j = k
    · subst e
      rw [if_pos rfl, if_pos rfl]
      have z : ysP ps d i [j, a] = ysP ps d i [j, c] := rfl
      rw [if_pos z]; omega
    · rw [if_neg e, if_neg e, pr_setL h0 h1 k0 k1]
      obtain ⟨x0, x1, y0, y1, _⟩ := T.at k0 k1
      obtain ⟨yx, yy⟩ := ysd_x T h0 h1
      by_cases ej : j = i
      · subst ej
        rw [if_pos rfl]
        show min (a + dr _ _ (pr ps j).x k c) ((pr ps j).l + b - a + dr _ _ (pr ps j).y k c) = _
        rw [dr_long T h0 h1 hb x0 x1 m0 m1 c0 c1, dr_long T h0 h1 hb y0 y1 m0 m1 c0 c1, yx, yy]
        have w : ysP ps d j [j, a] = false := if_pos rfl
        rw [w]
        have en := ysd_ends T h0 h1 m0 m1 (Ne.symm e)
        have ek : ysP ps d j [k, c] = ysd ps d j (pr ps k).x := if_neg (Ne.symm e)
        obtain ⟨u0, u1, v0, v1, _⟩ := T.at m0 m1
        have q1 := ysd_t T h0 h1 u0 u1
        have q2 := ysd_f T h0 h1 u0 u1
        have q3 := ysd_t T h0 h1 v0 v1
        have q4 := ysd_f T h0 h1 v0 v1
        have s1 := T.sym (pr ps k).x (pr ps j).x
        have s2 := T.sym (pr ps k).x (pr ps j).y
        have s3 := T.sym (pr ps k).y (pr ps j).x
        have s4 := T.sym (pr ps k).y (pr ps j).y
        rw [ek]
        unfold dr
        cases hk : ysd ps d j (pr ps k).x with
        | true => have w1 := q1 hk; have w2 := q3 (en ▸ hk); simp; omega
        | false => have w1 := q2 hk; have w2 := q4 (en ▸ hk); simp; omega
      · rw [if_neg ej, dr_long T h0 h1 hb x0 x1 m0 m1 c0 c1, dr_long T h0 h1 hb y0 y1 m0 m1 c0 c1]
        have en := ysd_ends T h0 h1 k0 k1 ej
        have w : ysP ps d i [j, a] = ysd ps d i (pr ps j).x := if_neg ej
        rw [w, ← en]; omega
omit hb
/-! beyond: nearer to the far end than to the place ahead of it -/
theorem ysP_near {p : Pl} (hp : okP n ps p) : (ysP ps d i p = true → Dp ps d p (nm ps i ((pr ps i).l - 1)) = Dp ps d p [(pr ps i).y] + 1) ∧ (ysP ps d i p = false → Dp ps d p [(pr ps i).y] = Dp ps d p (nm ps i ((pr ps i).l - 1)) + 1) := by
  obtain ⟨x0, x1, y0, y1, l1⟩ := T.at h0 h1
  rw [← nm_l (ps := ps) (i := i) (by omega)]
  rcases ok_cases hp with ⟨r, rfl, r0, r1⟩ | ⟨j, a, rfl, k0, k1, a0, a1⟩
  · rw [Dp_room T h0 h1 r0 r1, Dp_room T h0 h1 r0 r1]
    unfold dr
    exact ⟨fun h => by have := ysd_t T h0 h1 r0 r1 h; omega, fun h => by have := ysd_f T h0 h1 r0 r1 h; omega⟩
  · by_cases e : j = i
    · subst e
      rw [Dp_same T h0 h1 a0 a1, Dp_same T h0 h1 a0 a1]
      have w : ysP ps d j [j, a] = false := if_pos rfl
      rw [w]
      refine ⟨fun h => (by cases h), fun _ => ?_⟩
      unfold ab; split <;> split <;> omega
    · have w : ysP ps d i [j, a] = ysd ps d i (pr ps j).x := if_neg e
      have en := ysd_ends T h0 h1 k0 k1 e
      obtain ⟨u0, u1, v0, v1, _⟩ := T.at k0 k1
      have q1 := ysd_t T h0 h1 u0 u1
      have q2 := ysd_f T h0 h1 u0 u1
      have q3 := ysd_t T h0 h1 v0 v1
      have q4 := ysd_f T h0 h1 v0 v1
      rw [w, Dp_else T h0 h1 k0 k1 e a0 a1 _ (by omega) (by omega), Dp_else T h0 h1 k0 k1 e a0 a1 _ (by omega) (by omega)]
      unfold dr
      refine ⟨fun h => ?_, fun h => ?_⟩
      · have w1 := q1 h; have w2 := q3 (en ▸ h); split <;> omega
      · have w1 := q2 h; have w2 := q4 (en ▸ h); split <;> omega
end
section
variable {n : Int} {ps : List Pi} {d : Int → Int → Int} (T : Tm n ps d)
include T
/-! a step that lies between two places, seen from both -/
theorem cross {p u w : Pl} (hp : okP n ps p) (hu : okP n ps u) (hw : okP n ps w) (au : Adj ps w u) (e : Dp ps d p w = Dp ps d p u + 1) :
    ∀ (k : Nat) (q : Pl), okP n ps q → (Dp ps d w q).toNat = k → Dp ps d q u = Dp ps d q w + 1 → Dp ps d p q = Dp ps d p u + 1 + Dp ps d w q
  | 0, q, hq, ek, _ => by
    have z := Dp_nn T hw hq
    have := Dp_eq0 T hw hq (by omega)
    subst this
    omega
  | k + 1, q, hq, ek, eq => by
    have z := Dp_nn T hw hq
    have ne : q ≠ w := fun h => by rw [h, Dp_self T hw] at ek; cases ek
    obtain ⟨q1, a1, e1⟩ := Dp_par T hw hq ne
    have h1 := ok_adj T a1
    have s1 := Dp_sym T hq hw
    have s2 := Dp_sym T h1 hw
    have s3 := Dp_sym T hq hu
    have s4 := Dp_sym T h1 hu
    have st := Dp_step T hu a1
    have stw := Dp_step T h1 au
    have z1 := Dp_nn T hw h1
    have eq1 : Dp ps d q1 u = Dp ps d q1 w + 1 := by omega
    have ih := cross hp hu hw au e k q1 h1 (by omega) eq1
    rcases Dp_step T hp a1 with g | g
    · exfalso
      by_cases c : q1 = w
      · subst c
        have := Dp_uni T hp hw a1.symm au g e
        subst this
        rw [Dp_self T hq] at eq
        have := Dp_nn T hq h1
        omega
      · obtain ⟨q2, a2, e2⟩ := Dp_par T hw h1 c
        have h2 := ok_adj T a2
        have s5 := Dp_sym T h2 hw
        have s6 := Dp_sym T h2 hu
        have st2 := Dp_step T hu a2
        have stw2 := Dp_step T h2 au
        have ih2 := cross hp hu hw au e (k - 1) q2 h2 (by have := Dp_nn T hw h2; omega) (by omega)
        have := Dp_uni T hp h1 a1.symm a2 g (by omega)
        subst this
        omega
    · omega
termination_by k => k
end
section
variable {n : Int} {ps : List Pi} {d : Int → Int → Int} {i b : Int} (T : Tm n ps d) (h0 : 0 ≤ i) (h1 : i < ps.length) (hb : 0 ≤ b)
include T h0 h1
theorem ysP_btw {p q : Pl} (hp : okP n ps p) (hq : okP n ps q) : (ysP ps d i p = ysP ps d i q) ↔ ¬ (Btw ps d p q [(pr ps i).y] ∧ Btw ps d p q (nm ps i ((pr ps i).l - 1))) := by
  obtain ⟨x0, x1, y0, y1, l1⟩ := T.at h0 h1
  have hy : okP n ps [(pr ps i).y] := ⟨y0, y1⟩
  have hw : okP n ps (nm ps i ((pr ps i).l - 1)) := ok_nm T h0 h1 (by omega) (by omega)
  have aw : Adj ps (nm ps i ((pr ps i).l - 1)) [(pr ps i).y] := ⟨i, (pr ps i).l - 1, h0, h1, by omega, by omega, .inl ⟨rfl, by rw [show (pr ps i).l - 1 + 1 = (pr ps i).l by omega, nm_l (by omega)]⟩⟩
  have np := ysP_near T h0 h1 hp
  have nq := ysP_near T h0 h1 hq
  have s1 := Dp_sym T hq hy
  have s2 := Dp_sym T hq hw
  have s3 := Dp_sym T hp hy
  have s4 := Dp_sym T hp hw
  have s5 := Dp_sym T hp hq
  unfold Btw
  cases e1 : ysP ps d i p <;> cases e2 : ysP ps d i q
  · have a1 := np.2 e1; have a2 := nq.2 e2
    refine ⟨fun _ h => ?_, fun _ => rfl⟩
    omega
  · have a1 := np.2 e1; have a2 := nq.1 e2
    have c := cross T hp hw hy aw.symm a1 _ q hq rfl a2
    refine ⟨fun h => (by cases h), fun h => absurd ⟨?_, ?_⟩ h⟩ <;> omega
  · have a1 := np.1 e1; have a2 := nq.2 e2
    have c := cross T hp hy hw aw a1 _ q hq rfl a2
    refine ⟨fun h => (by cases h), fun h => absurd ⟨?_, ?_⟩ h⟩ <;> omega
  · have a1 := np.1 e1; have a2 := nq.1 e2
    refine ⟨fun _ h => ?_, fun _ => rfl⟩
    omega
end
end Rw

namespace Rw
open PySem PySem.Spec PyProof.Rows L2
theorem walk_enumT {K : PySem.W.Frag} {a : Addr} {xs : List V} : Walk (IteT K a) xs.length (fun H => SqT K H a xs) (YPair (fun i => some (.int (i : Nat))) (fun i => xs[i]?)) := by
  refine ⟨fun i _ hi q => ⟨xs, xs[i], q, by simp [hi]⟩, fun _ q => ⟨xs, q, Nat.le_refl _⟩, fun i H v H' _ q y => ?_⟩
  obtain ⟨T, x, z1, z2, z3, z4⟩ := y
  exact ⟨T, _, x, z1, z2, z3, rfl, z4 xs q⟩
theorem Keep.fr {H J : Hp} {p : Addr} (k : Keep [] H J) (n : J p = none) : H p = none := by
  cases e : H p with
  | none => rfl
  | some o => rw [k p o e List.not_mem_nil] at n; cases n
/-! a house, as the program is given it -/
structure HouseOk (n : Int) (ps : List Pi) : Prop where
  n1 : 1 ≤ n
  n2 : n ≤ 16
  len : (ps.length : Int) = n - 1
  ok : ∀ p ∈ ps, p.ok n
theorem HouseOk.at {n : Int} {ps : List Pi} (h : HouseOk n ps) {i : Nat} (hi : i < ps.length) : (pr ps (i : Int)).ok n ∧ ps[i]? = some (pr ps (i : Int)) := by
  have e := pr_mem (ps := ps) (i := (i : Int)) (by omega) (by omega)
  exact ⟨h.ok _ e.1, by rw [show ((i : Int)).toNat = i by omega] at e; exact e.2⟩
/-! ### the doors of each room -/
def doorRow (ps : List Pi) (r : Int) (j : Nat) : List (List Int) :=
  (if (pr ps (j : Int)).x = r then [[(j : Int), 0, (pr ps (j : Int)).y, (pr ps (j : Int)).l]] else []) ++ (if (pr ps (j : Int)).y = r then [[(j : Int), (pr ps (j : Int)).l, (pr ps (j : Int)).x, 0]] else [])
def doorsTo (ps : List Pi) (r : Int) (i : Nat) : List (List Int) := (List.range i).flatMap (doorRow ps r)
theorem doorsTo_succ (ps : List Pi) (r : Int) (i : Nat) : doorsTo ps r (i + 1) = doorsTo ps r i ++ doorRow ps r i := by
  unfold doorsTo
  rw [List.range_succ, List.flatMap_append]
  simp
/-! lists of rows of ints, each at its own address -/
def Rws (av : List Addr) (G : Hp) (ds : List Addr) (f : Nat → List (List Int)) (m : Nat) : Prop := ∀ (r : Nat) (a : Addr), ds[r]? = some a → ∃ ts, G a = some (.lst ts) ∧ Dts av G ts ((f r).map tupI) ∧ ts.length ≤ m
theorem Rws.new {av : List Addr} {G : Hp} {ds : List Addr} {f : Nat → List (List Int)} {m : Nat} {p : Addr} {o : HO} (h : Rws av G ds f m) (n : G p = none) : Rws av (upd G p o) ds f m := fun r a e => by
  obtain ⟨ts, h1, h2, h3⟩ := h r a e
  exact ⟨ts, by rw [upd_ne (ne_of_none h1 n)]; exact h1, h2.keep (Keep.new n), h3⟩
theorem Rws.less {av av' : List Addr} {G : Hp} {ds : List Addr} {f : Nat → List (List Int)} {m : Nat} (h : Rws av G ds f m) (s : ∀ a ∈ av', a ∈ av) : Rws av' G ds f m := fun r a e => by
  obtain ⟨ts, h1, h2, h3⟩ := h r a e
  exact ⟨ts, h1, h2.less s, h3⟩
theorem nodup_at {ds : List Addr} (nd : ds.Nodup) {r s : Nat} {a : Addr} (h : ds[r]? = some a) (h' : ds[s]? = some a) : r = s := by
  obtain ⟨h1, e1⟩ := List.getElem?_eq_some_iff.mp h
  obtain ⟨h2, e2⟩ := List.getElem?_eq_some_iff.mp h'
  exact (List.getElem_inj nd).mp (e1.trans e2.symm)
theorem dts_ints {av : List Addr} {H : Hp} (ns : List Int) : Dts av H (ns.map V.int) (ns.map PyData.int) := Dts.ints ns
theorem Rws.put {av : List Addr} {G : Hp} {ds : List Addr} {f : Nat → List (List Int)} {m : Nat} (h : Rws av G ds f m) (sub : ∀ a ∈ ds, a ∈ av) (nd : ds.Nodup) (tr : Tr av G) {r0 : Nat} {a0 t : Addr} {ts0 : List V} {ns : List Int} (e0 : ds[r0]? = some a0) (g0 : G a0 = some (.lst ts0)) (nt : G t = none) :
    Rws av (upd (upd G t (.tup (ns.map V.int))) a0 (.lst (ts0 ++ [.ref t]))) ds (fun r => if r = r0 then f r ++ [ns] else f r) (m + 1) := fun r a e => by
  have m0 : a0 ∈ av := sub a0 (List.mem_of_getElem? e0)
  obtain ⟨ts, h1, h2, h3⟩ := h r a e
  have h2' : Dts av (upd (upd G t (.tup (ns.map V.int))) a0 (.lst (ts0 ++ [.ref t]))) ts ((f r).map tupI) := (h2.keep (Keep.new nt)).keep (Keep.put m0)
  by_cases c : r = r0
  · subst c
    rw [e] at e0; cases e0
    rw [h1] at g0; cases g0
    refine ⟨ts0 ++ [.ref t], upd_same, ?_, by rw [List.length_append, List.length_singleton]; omega⟩
    show Dts _ _ _ (List.map tupI (if r = r then f r ++ [ns] else f r))
    rw [if_pos rfl, List.map_append]
    have nta : t ≠ a0 := (ne_of_none h1 nt).symm
    exact Dts.app h2' (.cons (.tup (tr.not nt) (by rw [upd_ne nta]; exact upd_same) (Dts.ints ns)) .nil)
  · have ne : a ≠ a0 := fun z => by subst z; exact c (nodup_at nd e e0)
    refine ⟨ts, by rw [upd_ne ne, upd_ne (ne_of_none h1 nt)]; exact h1, ?_, by omega⟩
    show Dts _ _ _ (List.map tupI (if r = r0 then f r ++ [ns] else f r))
    rw [if_neg c]; exact h2'
section
variable {P : Program} {w : World} {K : PySem.W.Frag} {mg : Str → Option Value} {base : Heap}
abbrev sDoors : Stmt := topS 13
abbrev nDoors : List Str := ["house", "rooms", "pipes", "room", "doors", "number", "pipe", "one", "other", "length"]
theorem scDoors : FnScope nDoors ["house"] (defScope sDoors) := ⟨rfl, rfl, rfl, by decide +kernel, rfl, by decide +kernel, by decide +kernel⟩
def spDoors : Sp := fun vs H Q _ => ∃ (h : V) (n : Int) (ps : List Pi) (av : List Addr), vs = [h] ∧ Dt av H h (houseD n (ps.map Pi.dat)) ∧ HouseOk n ps ∧ Tr av H ∧
  ∀ (H' : Hp) (Dl : Addr) (ds : List Addr), Keep [] H H' → H Dl = none → Dl ∉ av → (∀ a ∈ ds, a ∉ av) → Tr av H' → H' Dl = some (.lst (ds.map V.ref)) → (ds.length : Int) = n → Rws av H' ds (fun r => doorsTo ps (r : Int) ps.length) 100 → Q (.ref Dl) H'
theorem ok_doors (h : Has K mg "doors_of" sDoors) (B : Blt mg) : Can P w K mg base "doors_of" ["house"] 1 spDoors := by
  obtain ⟨f, fd, F, g⟩ := h
  refine ⟨f, fd, F.ok (k := 0) scDoors (fun vs H Q E h => ?_) (fun cdv A outer s H vs Q E hr h => ?_), g, F.kp, F.binds fun _ _ _ _ _ _ us hl => match us, hl with | [_], _ => rfl⟩
  · obtain ⟨h, n, ps, av, rfl, _⟩ := h
    rfl
  · obtain ⟨h, n, ps, av, rfl, hh, hk, tr, q⟩ := h
    have n1 := hk.n1
    have n2 := hk.n2
    have ln := hk.len
    refine ⟨_, pss_cons (ps_asg (pv 0) (pg_tup (by rfl) (pgs_cons (pg_name (i := 1) scDoors.nd rfl (by first | exact Or.inl rfl | exact Or.inr rfl)) (pgs_cons (pg_name (i := 2) scDoors.nd rfl (by first | exact Or.inl rfl | exact Or.inr rfl)) pgs_nil))))
      (pss_cons (ps_setLc (i := 4) (own := [("room", 3)]) (g := gName 3) (tt := tYes) rfl scDoors.nd rfl rfl (sw_true rfl rfl rfl (by decide +kernel)) (pi_range1 (by rfl) B.range_ (pa_cons (pv 1) pa_nil)) (blkOk_by (N := nDoors) (sc := defScope sDoors) (by decide +kernel)) (fun _ _ _ _ _ => (pg_name (i := 3) scDoors.nd rfl (by first | exact Or.inl rfl | exact Or.inr rfl))) (fun _ _ _ _ _ => pts_nil) (fun _ _ _ _ _ => (pe_lst pa_nil)))
      (pss_cons (ps_for PassesOwn.never rfl (pi_enumT (by rfl) B.enum_ (pa_cons (pv 2) pa_nil)) (pg_tup (by rfl) (pgs_cons (pg_name (i := 5) scDoors.nd rfl (by first | exact Or.inl rfl | exact Or.inr rfl)) (pgs_cons (pg_name (i := 6) scDoors.nd rfl (by first | exact Or.inl rfl | exact Or.inr rfl)) pgs_nil)))
      (pss_cons (ps_asg (pe_slice sl_tup (pv 6) po_none (po_some pe_int)) (pg_tup (by rfl) (pgs_cons (pg_name (i := 7) scDoors.nd rfl (by first | exact Or.inl rfl | exact Or.inr rfl)) (pgs_cons (pg_name (i := 8) scDoors.nd rfl (by first | exact Or.inl rfl | exact Or.inr rfl)) (pgs_cons (pg_name (i := 9) scDoors.nd rfl (by first | exact Or.inl rfl | exact Or.inr rfl)) pgs_nil)))))
      (pss_cons (ps_expr (pe_bm PySem.F.plainAttrs_list PySem.F.slot_list_append PySem.F.type_list_append mt_append (pe_ix ix_list (pv 4) (pv 7) (fun _ _ => rfl)) (pa_cons (pe_tup (pa_cons (pv 5) (pa_cons pe_int (pa_cons (pv 8) (pa_cons (pv 9) pa_nil))))) pa_nil)))
      (pss_one (ps_expr (pe_bm PySem.F.plainAttrs_list PySem.F.slot_list_append PySem.F.type_list_append mt_append (pe_ix ix_list (pv 4) (pv 8) (fun _ _ => rfl)) (pa_cons (pe_tup (pa_cons (pv 5) (pa_cons (pv 9) (pa_cons (pv 7) (pa_cons pe_int pa_nil))))) pa_nil)))))))
      (pss_one (ps_ret (pv 4))))), ?_⟩
    obtain ⟨ah, ap, xp, rfl, na, ea, nb, eb, db⟩ := house_parts hh
    refine ⟨.ref ah, rfl, ah, [.int n, .ref ap], rfl, SqT.of ea, rfl, _, _, rfl, _, [], rfl, rfl, ?_⟩
    -- a list of empty lists
    refine ⟨.int n, rfl, n, rfl, by omega, by omega, fun Dl nD => ?_⟩
    refine lc_range (lo := 0) (n := n.toNat) (fun i J => Keep [] H J ∧ ∃ ds : List Addr, ds.length = i ∧ ds.Nodup ∧ (∀ a ∈ ds, H a = none ∧ J a = some (.lst [])) ∧ Dl ∉ ds ∧ J Dl = some (.lst (ds.map V.ref)))
      ⟨Keep.new nD, [], rfl, List.nodup_nil, fun _ z => absurd z List.not_mem_nil, List.not_mem_nil, upd_same⟩ (fun i J hi p => ?_) (fun J p => ?_)
    · obtain ⟨k1, ds, l1, nd, al, nl, eD⟩ := p
      refine ⟨rfl, show 0 ≤ sizeLine by decide, fun p np => ⟨ds.map V.ref, ?_, ?_, ?_, ds ++ [p], ?_, ?_, ?_, ?_, ?_⟩⟩
      · rw [upd_ne (ne_of_none eD np)]; exact eD
      · rw [List.length_map, l1]; exact small1000 (by omega)
      · exact (k1.trans (Keep.new np)).upd nD
      · rw [List.length_append, l1]; rfl
      · refine List.nodup_append.mpr ⟨nd, by simp, fun a ha b hb e => ?_⟩
        rw [List.mem_singleton.mp hb] at e
        rw [e] at ha
        rw [(al p ha).2] at np; cases np
      · intro a ha
        have npD : p ≠ Dl := (ne_of_none eD np).symm
        rcases List.mem_append.mp ha with ha | ha
        · have e := al a ha
          have na' : a ≠ Dl := fun z => nl (z ▸ ha)
          exact ⟨e.1, by rw [upd_ne na', upd_ne (ne_of_none e.2 np)]; exact e.2⟩
        · rw [List.mem_singleton.mp ha]
          exact ⟨k1.fr np, by rw [upd_ne npD]; exact upd_same⟩
      · intro m
        rcases List.mem_append.mp m with m | m
        · exact nl m
        · exact (ne_of_none eD np) (List.mem_singleton.mp m)
      · rw [upd_same, List.map_append]; rfl
    · obtain ⟨k1, ds, l1, nd, al, nl, eD⟩ := p
      have fD : H Dl = none := nD
      have trJ : Tr (Dl :: ds ++ av) J := fun a m => by
        rcases List.mem_append.mp m with m | m
        · rcases List.mem_cons.mp m with m | m
          · rw [m]; exact ⟨_, eD⟩
          · exact ⟨_, (al a m).2⟩
        · obtain ⟨o, e⟩ := tr a m
          exact ⟨o, k1 a o e List.not_mem_nil⟩
      have ebJ := k1 ap _ eb List.not_mem_nil
      refine ⟨.ref ap, rfl, ap, xp, rfl, SqT.of ebJ, for_it (walk_enumT (K := K) (a := ap) (xs := xp))
        (fun i σ G => ∃ s3 s5 s6 s7 s8 s9, σ = [some (.ref ah), some (.int n), some (.ref ap), s3, some (.ref Dl), s5, s6, s7, s8, s9] ∧ Keep [] H G ∧ Tr (Dl :: ds ++ av) G ∧ G Dl = some (.lst (ds.map V.ref)) ∧ Rws (Dl :: ds ++ av) G ds (fun r => doorsTo ps (r : Int) i) (2 * i))
        ⟨_, _, _, _, _, _, rfl, k1, trJ, eD, fun r a e => ⟨[], (al a (List.mem_of_getElem? e)).2, .nil, Nat.zero_le _⟩⟩ (fun i σ G _ p => ?_) (fun i x σ G G' hi p y => ?_) (fun σ G p => ?_)⟩
      · obtain ⟨_, _, _, _, _, _, _, kG, _⟩ := p
        exact SqT.of (kG ap _ eb List.not_mem_nil)
      · obtain ⟨s3, s5, s6, s7, s8, s9, rfl, kG, tG, eG, rG⟩ := p
        obtain ⟨T0, x1, y1, rfl, nT, rfl, hx1, hy1⟩ := y
        cases hx1
        have xl : xp.length = ps.length := by rw [db.len, List.length_map]
        have hi' : i < ps.length := by omega
        obtain ⟨pok, pg⟩ := hk.at hi'
        have dbG := db.keep (kG.of)
        obtain ⟨pp, pa, T1, T2, _, gp, ga, epa⟩ := pi_at dbG (i := (i : Int)) (by omega) (by omega)
        have epp : pp = pr ps (i : Int) := by
          rw [show ((i : Int)).toNat = i by omega, pg] at gp
          exact (Option.some.inj gp).symm
        subst epp
        have ey1 : y1 = .ref pa := by
          have w : atI xp (i : Int) = some y1 := atI_nat hy1
          rw [w] at ga; exact Option.some.inj ga
        subst ey1
        obtain ⟨X, hX⟩ : ∃ X, (pr ps (i : Int)).x = X := ⟨_, rfl⟩
        obtain ⟨Y, hY⟩ : ∃ X, (pr ps (i : Int)).y = X := ⟨_, rfl⟩
        obtain ⟨L, hL⟩ : ∃ X, (pr ps (i : Int)).l = X := ⟨_, rfl⟩
        have p1 := pok.x0; have p2 := pok.x1; have p3 := pok.y0; have p4 := pok.y1; have p5 := pok.xy
        rw [hX] at p1 p2 p5; rw [hY] at p3 p4 p5
        rw [hX, hY, hL] at epa
        refine ⟨T0, [.int (i : Nat), .ref pa], rfl, SqT.of upd_same, rfl, _, _, rfl, _, [], rfl, rfl, ?_⟩
        have npa : pa ≠ T0 := ne_of_none epa nT
        refine ⟨.ref pa, rfl, 3, rfl, pa, [.int X, .int Y, .int L, .ref T1, .ref T2], rfl, SqT.of (show (upd G T0 _) pa = _ by rw [upd_ne npa]; exact epa), show ¬ (HT.sIx 5 0 none = 0 ∧ HT.sIx 5 5 (some 3) = 5) by decide +kernel, fun T3 nT3 => ?_⟩
        refine ⟨T3, [.int X, .int Y, .int L], rfl, SqT.of (upd_same.trans (congrArg some (congrArg HO.tup (cut_to _ 3)))), rfl, _, _, rfl, _, _, rfl, _, [], rfl, rfl, ?_⟩
        rw [show cutV [V.int X, .int Y, .int L, .ref T1, .ref T2] none (some 3) = [.int X, .int Y, .int L] from cut_to _ 3]
        have kJ : Keep [] H (upd (upd G T0 (.tup [.int (i : Nat), .ref pa])) T3 (.tup [.int X, .int Y, .int L])) := kG.trans ((Keep.new nT).trans (Keep.new nT3))
        have tJ : Tr (Dl :: ds ++ av) (upd (upd G T0 (.tup [.int (i : Nat), .ref pa])) T3 (.tup [.int X, .int Y, .int L])) := (tG.upd).upd
        have eJ : (upd (upd G T0 (.tup [.int (i : Nat), .ref pa])) T3 (.tup [.int X, .int Y, .int L])) Dl = some (.lst (ds.map V.ref)) := Keep.new (av := []) nT3 _ _ (Keep.new (av := []) nT _ _ eG List.not_mem_nil) List.not_mem_nil
        have rJ := (rG.new (o := .tup [.int (i : Nat), .ref pa]) nT).new (o := .tup [.int X, .int Y, .int L]) nT3
        generalize upd (upd G T0 (.tup [.int (i : Nat), .ref pa])) T3 (.tup [.int X, .int Y, .int L]) = J2 at kJ tJ eJ rJ ⊢
        have dl : ds.length = n.toNat := l1
        obtain ⟨a, ga⟩ : ∃ a, ds[X.toNat]? = some a := ⟨_, List.getElem?_eq_getElem (by omega)⟩
        obtain ⟨b, gb⟩ : ∃ b, ds[Y.toNat]? = some b := ⟨_, List.getElem?_eq_getElem (by omega)⟩
        obtain ⟨ts, e1, e2, e3⟩ := rJ X.toNat a ga
        have sub : ∀ z ∈ ds, z ∈ Dl :: ds ++ av := fun z m => List.mem_append_left _ (List.mem_cons_of_mem _ m)
        have aD : a ≠ Dl := fun z => nl (z ▸ List.mem_of_getElem? ga)
        have bD : b ≠ Dl := fun z => nl (z ▸ List.mem_of_getElem? gb)
        refine ⟨.ref Dl, rfl, .int X, rfl, Dl, _, X, .ref a, rfl, rfl, SqL.of eJ, atI_of p1 (by rw [List.getElem?_map, ga]; rfl), .inl ⟨rfl, _, SqL.of e1⟩, .int (i : Nat), rfl, .int Y, rfl, .int L, rfl, show 4 ≤ sizeLine by decide, fun t nt => ?_⟩
        have at1 : (upd J2 t (.tup [.int (i : Nat), .int 0, .int Y, .int L])) a = some (.lst ts) := by rw [upd_ne (ne_of_none e1 nt)]; exact e1
        refine ⟨a, ts, .ref t, rfl, rfl, at1, Nat.lt_of_le_of_lt e3 (small1000 (by omega)), ?_⟩
        have rK := rJ.put sub nd tJ (ns := [(i : Int), 0, Y, L]) ga e1 nt
        have ha : H a = none := (al a (List.mem_of_getElem? ga)).1
        have hb : H b = none := (al b (List.mem_of_getElem? gb)).1
        have kK : Keep [] H (upd (upd J2 t (.tup [.int (i : Nat), .int 0, .int Y, .int L])) a (.lst (ts ++ [.ref t]))) := (kJ.trans (Keep.new nt)).upd ha
        have tK : Tr (Dl :: ds ++ av) (upd (upd J2 t (.tup [.int (i : Nat), .int 0, .int Y, .int L])) a (.lst (ts ++ [.ref t]))) := (tJ.upd).upd
        have eK : (upd (upd J2 t (.tup [.int (i : Nat), .int 0, .int Y, .int L])) a (.lst (ts ++ [.ref t]))) Dl = some (.lst (ds.map V.ref)) := by
          rw [upd_ne aD.symm, upd_ne (ne_of_none eJ nt)]; exact eJ
        have rK' : Rws (Dl :: ds ++ av) (upd (upd J2 t (.tup [.int (i : Nat), .int 0, .int Y, .int L])) a (.lst (ts ++ [.ref t]))) ds (fun r => if r = X.toNat then doorsTo ps (r : Int) i ++ [[(i : Int), 0, Y, L]] else doorsTo ps (r : Int) i) (2 * i + 1) := rK
        generalize upd (upd J2 t (.tup [.int (i : Nat), .int 0, .int Y, .int L])) a (.lst (ts ++ [.ref t])) = J3 at kK tK eK rK' ⊢
        obtain ⟨us, f1, f2, f3⟩ := rK' Y.toNat b gb
        refine ⟨.ref Dl, rfl, .int Y, rfl, Dl, _, Y, .ref b, rfl, rfl, SqL.of eK, atI_of p3 (by rw [List.getElem?_map, gb]; rfl), .inl ⟨rfl, _, SqL.of f1⟩, .int (i : Nat), rfl, .int L, rfl, .int X, rfl, show 4 ≤ sizeLine by decide, fun u nu => ?_⟩
        have at2 : (upd J3 u (.tup [.int (i : Nat), .int L, .int X, .int 0])) b = some (.lst us) := by rw [upd_ne (ne_of_none f1 nu)]; exact f1
        refine ⟨b, us, .ref u, rfl, rfl, at2, Nat.lt_of_le_of_lt f3 (small1000 (by omega)), ?_⟩
        have rM := rK'.put sub nd tK (ns := [(i : Int), L, X, 0]) gb f1 nu
        refine ⟨_, _, _, _, _, _, rfl, (kK.trans (Keep.new nu)).upd hb, (tK.upd).upd, ?_, fun r z gz => ?_⟩
        · rw [upd_ne bD.symm, upd_ne (ne_of_none eK nu)]; exact eK
        · obtain ⟨vs, v1, v2, v3⟩ := rM r z gz
          refine ⟨vs, v1, ?_, by omega⟩
          have er : (if r = Y.toNat then (if r = X.toNat then doorsTo ps (r : Int) i ++ [[(i : Int), 0, Y, L]] else doorsTo ps (r : Int) i) ++ [[(i : Int), L, X, 0]] else (if r = X.toNat then doorsTo ps (r : Int) i ++ [[(i : Int), 0, Y, L]] else doorsTo ps (r : Int) i)) = doorsTo ps (r : Int) (i + 1) := by
            rw [doorsTo_succ]
            unfold doorRow
            rw [hX, hY, hL]
            by_cases c1 : r = X.toNat
            · have c2 : ¬ r = Y.toNat := by omega
              rw [if_neg c2, if_pos c1, if_pos (show X = (r : Int) by omega), if_neg (show ¬ Y = (r : Int) by omega)]; simp
            · by_cases c2 : r = Y.toNat
              · rw [if_pos c2, if_neg c1, if_neg (show ¬ X = (r : Int) by omega), if_pos (show Y = (r : Int) by omega)]; simp
              · rw [if_neg c2, if_neg c1, if_neg (show ¬ X = (r : Int) by omega), if_neg (show ¬ Y = (r : Int) by omega)]; simp
          show Dts _ _ _ (List.map tupI (doorsTo ps (r : Int) (i + 1)))
          rw [← er]; exact v2
      · obtain ⟨s3, s5, s6, s7, s8, s9, rfl, kG, tG, eG, rG⟩ := p
        have xl : xp.length = ps.length := by rw [db.len, List.length_map]
        rw [xl] at rG
        have tv : Tr av G := fun a m => tG a (List.mem_append_right _ m)
        refine ⟨.ref Dl, rfl, q G Dl ds kG fD (tr.not fD) (fun a m => tr.not (al a m).1) tv eG (by omega) ?_⟩
        intro r a e
        obtain ⟨ts, h1, h2, h3⟩ := rG r a e
        exact ⟨ts, h1, h2.less fun z m => List.mem_append_right _ m, by omega⟩
end
end Rw

namespace Rw
open PySem PySem.Spec PyProof.Rows L2
/-! ### how far all rooms lie from one -/
theorem pigeon : ∀ (n : Nat) (F : List Int), F.Nodup → (∀ t ∈ F, 0 ≤ t ∧ t < n) → F.length ≤ n
  | 0, [], _, _ => Nat.le_refl _
  | 0, t :: _, _, h => by have := h t List.mem_cons_self; omega
  | n + 1, F, nd, h => by
    by_cases m : (n : Int) ∈ F
    · have e := List.length_erase_of_mem m
      have := pigeon n (F.erase (n : Int)) (nd.erase _) (fun t ht => by
        have z := (nd.mem_erase_iff).mp ht
        have := h t z.2
        have := z.1
        omega)
      omega
    · have := pigeon n F nd (fun t ht => by
        have := h t ht
        have : t ≠ n := fun z => m (z ▸ ht)
        omega)
      omega
theorem mem_doors {ps : List Pi} {u : Int} {m : Nat} {row : List Int} : row ∈ doorsTo ps u m ↔ ∃ j : Nat, j < m ∧ (((pr ps (j : Int)).x = u ∧ row = [(j : Int), 0, (pr ps (j : Int)).y, (pr ps (j : Int)).l]) ∨ ((pr ps (j : Int)).y = u ∧ row = [(j : Int), (pr ps (j : Int)).l, (pr ps (j : Int)).x, 0])) := by
  unfold doorsTo
  rw [List.mem_flatMap]
  constructor
  · rintro ⟨j, hj, h⟩
    refine ⟨j, List.mem_range.mp hj, ?_⟩
    unfold doorRow at h
    rcases List.mem_append.mp h with h | h
    · split at h
      · rename_i e; exact .inl ⟨e, List.mem_singleton.mp h⟩
      · cases h
    · split at h
      · rename_i e; exact .inr ⟨e, List.mem_singleton.mp h⟩
      · cases h
  · rintro ⟨j, hj, h⟩
    refine ⟨j, List.mem_range.mpr hj, ?_⟩
    unfold doorRow
    rcases h with ⟨e, h⟩ | ⟨e, h⟩
    · rw [if_pos e, h]; exact List.mem_append_left _ List.mem_cons_self
    · rw [if_pos e, h]; exact List.mem_append_right _ List.mem_cons_self
/-! a row as towards has it: of a room, the door that leads nearer to r -/
def TowRow (ps : List Pi) (d : Int → Int → Int) (r t : Int) (row : List Int) : Prop :=
  ∃ (i : Nat) (p : Pi), ps[i]? = some p ∧ ((row = [(i : Int), 0, p.y, p.l] ∧ p.x = t ∧ d r p.y + p.l = d r t) ∨ (row = [(i : Int), p.l, p.x, 0] ∧ p.y = t ∧ d r p.x + p.l = d r t))
def TowE (av : List Addr) (G : Hp) (kw : List (Key × V)) (F : List Int) (ps : List Pi) (d : Int → Int → Int) (r : Int) : Prop :=
  ∀ t ∈ F, t ≠ r → ∃ (T : Addr) (row : List Int), valV kw (Sum.inl t) = some (.ref T) ∧ T ∉ av ∧ G T = some (.tup (row.map V.int)) ∧ TowRow ps d r t row
theorem TowE.keep {av : List Addr} {G G' : Hp} {kw : List (Key × V)} {F : List Int} {ps : List Pi} {d : Int → Int → Int} {r : Int} (h : TowE av G kw F ps d r) (k : ∀ b xs, G b = some (.tup xs) → G' b = some (.tup xs)) : TowE av G' kw F ps d r := fun t ht nt => by
  obtain ⟨T, row, h1, h2, h3, h4⟩ := h t ht nt
  exact ⟨T, row, h1, h2, k T _ h3, h4⟩
theorem keepTup {G : Hp} {b : Addr} {o u : HO} (e : G b = some o) (ho : ∀ xs, o ≠ .tup xs) : ∀ c xs, G c = some (.tup xs) → (upd G b u) c = some (.tup xs) := fun c xs ec => by
  have : c ≠ b := fun z => by rw [z, e] at ec; exact ho xs (Option.some.inj ec)
  rw [upd_ne this]; exact ec
theorem keepTupN {G : Hp} {b : Addr} {u : HO} (e : G b = none) : ∀ c xs, G c = some (.tup xs) → (upd G b u) c = some (.tup xs) := fun c xs ec => by
  rw [upd_ne (ne_of_none ec e)]; exact ec
def GapsAt (H : Hp) (g : Addr) (n : Int) (d : Int → Int → Int) (r : Int) : Prop := ∃ kvs, H g = some (.dK kvs) ∧ ∀ t, 0 ≤ t → t < n → valV kvs (Sum.inl t) = some (.int (d r t))
def TowAt (av : List Addr) (H : Hp) (w : Addr) (n : Int) (ps : List Pi) (d : Int → Int → Int) (r : Int) : Prop := ∃ kvs, H w = some (.dK kvs) ∧ TowE av H kvs (start n.toNat) ps d r
/-! what was found so far, what waits, but for here what was gone through is closed -/
structure SS (n : Int) (ps : List Pi) (d : Int → Int → Int) (r : Int) (F td ex : List Int) : Prop where
  nd : F.Nodup
  rg : ∀ t ∈ F, 0 ≤ t ∧ t < n
  src : r ∈ F
  sub : ∀ t ∈ td, t ∈ F
  few : td.length ≤ F.length
  par : Pard r (d r) (RE ps) F
  cl : ∀ u ∈ F, u ∉ td → u ∉ ex → ∀ v w, RE ps u v w → v ∈ F
theorem SS.first {n : Int} {ps : List Pi} {d : Int → Int → Int} {r : Int} (r0 : 0 ≤ r) (r1 : r < n) : SS n ps d r [r] [r] [] where
  nd := by simp
  rg := fun t ht => by rw [List.mem_singleton.mp ht]; exact ⟨r0, r1⟩
  src := List.mem_cons_self
  sub := fun t ht => ht
  few := Nat.le_refl _
  par := fun v hv nv => absurd (List.mem_singleton.mp hv) nv
  cl := fun u hu nu => absurd hu nu
theorem SS.pop {n : Int} {ps : List Pi} {d : Int → Int → Int} {r h : Int} {F td : List Int} (S : SS n ps d r F (td ++ [h]) []) : SS n ps d r F td [h] where
  nd := S.nd
  rg := S.rg
  src := S.src
  sub := fun t ht => S.sub t (List.mem_append_left _ ht)
  few := by have := S.few; rw [List.length_append] at this; omega
  par := S.par
  cl := fun u hu n1 n2 => S.cl u hu (fun m => (List.mem_append.mp m).elim n1 n2) List.not_mem_nil
theorem SS.add {n : Int} {ps : List Pi} {d : Int → Int → Int} {r h v w : Int} {F td : List Int} (T : Tm n ps d) (S : SS n ps d r F td [h]) (hh : h ∈ F) (nv : v ∉ F) (e : RE ps h v w) : SS n ps d r (F ++ [v]) (td ++ [v]) [h] ∧ d r v = d r h + w := by
  have rr := S.rg r S.src
  have R := T.rooms rr.1 rr.2
  have dv := R.found S.par hh (S.rg h hh) e nv
  refine ⟨⟨?_, ?_, List.mem_append_left _ S.src, ?_, by have := S.few; rw [List.length_append, List.length_append]; exact Nat.add_le_add_right this _, S.par.snoc hh (R.sym _ _ _ e) dv, ?_⟩, dv⟩
  · refine List.nodup_append.mpr ⟨S.nd, by simp, fun a ha b hb z => ?_⟩
    rw [List.mem_singleton.mp hb] at z
    exact nv (z ▸ ha)
  · intro t ht
    rcases List.mem_append.mp ht with m | m
    · exact S.rg t m
    · rw [List.mem_singleton.mp m]; exact R.cl _ _ _ (S.rg h hh) e
  · intro t ht
    rcases List.mem_append.mp ht with m | m
    · exact List.mem_append_left _ (S.sub t m)
    · exact List.mem_append_right _ m
  · intro u hu n1 n2 x y ex
    rcases List.mem_append.mp hu with m | m
    · exact List.mem_append_left _ (S.cl u m (fun z => n1 (List.mem_append_left _ z)) n2 x y ex)
    · exact absurd (List.mem_append_right _ m) n1
theorem SS.done {n : Int} {ps : List Pi} {d : Int → Int → Int} {r h : Int} {F td : List Int} (S : SS n ps d r F td [h]) (hc : ∀ v w, RE ps h v w → v ∈ F) : SS n ps d r F td [] where
  nd := S.nd
  rg := S.rg
  src := S.src
  sub := S.sub
  few := S.few
  par := S.par
  cl := fun u hu n1 _ v w e => by
    by_cases z : u = h
    · rw [z] at e; exact hc v w e
    · exact S.cl u hu n1 (fun m => z (List.mem_singleton.mp m)) v w e
theorem SS.all {n : Int} {ps : List Pi} {d : Int → Int → Int} {r : Int} {F : List Int} (T : Tm n ps d) (S : SS n ps d r F [] []) {t : Int} (t0 : 0 ≤ t) (t1 : t < n) : t ∈ F := by
  have rr := S.rg r S.src
  exact (T.rooms rr.1 rr.2).all S.src (fun u hu v w e => S.cl u hu List.not_mem_nil List.not_mem_nil v w e) _ t ⟨t0, t1⟩ (Nat.lt_succ_self _)
/-! the dicts: gaps has just what was found -/
def GapE (kg : List (Key × V)) (F : List Int) (d : Int → Int → Int) (r : Int) : Prop := kg.length = F.length ∧ (∀ t ∈ F, valV kg (Sum.inl t) = some (.int (d r t))) ∧ ∀ t, t ∉ F → valV kg (Sum.inl t) = none
theorem GapE.put {kg : List (Key × V)} {F : List Int} {d : Int → Int → Int} {r v : Int} (h : GapE kg F d r) (nv : v ∉ F) : GapE (putK kg (Sum.inl v) (.int (d r v))) (F ++ [v]) d r := by
  obtain ⟨h1, h2, h3⟩ := h
  refine ⟨?_, fun t ht => ?_, fun t ht => ?_⟩
  · rw [putK_new _ (h3 v nv), List.length_append, List.length_append, h1]; rfl
  · rw [valV_put]
    by_cases e : t = v
    · rw [e, if_pos rfl]
    · rw [if_neg (fun z => e (Sum.inl.inj z))]
      rcases List.mem_append.mp ht with m | m
      · exact h2 t m
      · exact absurd (List.mem_singleton.mp m) e
  · rw [valV_put, if_neg (fun z => ht (by rw [Sum.inl.inj z]; exact List.mem_append_right _ List.mem_cons_self))]
    exact h3 t (fun z => ht (List.mem_append_left _ z))
theorem Dts.unints {av : List Addr} {H : Hp} : ∀ {xs : List V} {ns : List Int}, Dts av H xs (ns.map PyData.int) → xs = ns.map V.int
  | _, [], h => by cases h; rfl
  | _, n :: ns, h => by
    cases h with
    | cons h1 h2 => cases h1; rw [Dts.unints h2]; rfl
theorem tupI_at {av : List Addr} {H : Hp} {v : V} {ns : List Int} (h : Dt av H v (tupI ns)) : ∃ a, v = .ref a ∧ a ∉ av ∧ H a = some (.tup (ns.map V.int)) := by
  unfold tupI at h
  cases h with
  | tup n e d => rw [d.unints] at e; exact ⟨_, rfl, n, e⟩
section
variable {P : Program} {w : World} {K : PySem.W.Frag} {mg : Str → Option Value} {base : Heap}
abbrev sSpread : Stmt := topS 14
abbrev nSpread : List Str := ["doors", "room", "gaps", "towards", "todo", "here", "pipe", "at", "beyond", "far"]
theorem scSpread : FnScope nSpread ["doors", "room"] (defScope sSpread) := ⟨rfl, rfl, rfl, by decide +kernel, rfl, by decide +kernel, by decide +kernel⟩
def spSpread : Sp := fun vs H Q _ => ∃ (Dl : Addr) (ds : List Addr) (n r : Int) (ps : List Pi) (d : Int → Int → Int) (av : List Addr), vs = [.ref Dl, .int r] ∧ H Dl = some (.lst (ds.map V.ref)) ∧ (ds.length : Int) = n ∧
  Rws av H ds (fun r => doorsTo ps (r : Int) ps.length) 100 ∧ HouseOk n ps ∧ Tm n ps d ∧ 0 ≤ r ∧ r < n ∧ Tr av H ∧
  ∀ (H' : Hp) (t g w : Addr), Keep [] H H' → Tr av H' → t ∉ av → g ∉ av → w ∉ av → H' t = some (.tup [.ref g, .ref w]) → GapsAt H' g n d r → TowAt av H' w n ps d r → Q (.ref t) H'
theorem ok_spread (h : Has K mg "spread_from" sSpread) (B : Blt mg) : Can P w K mg base "spread_from" ["doors", "room"] 1 spSpread := by
  obtain ⟨f, fd, F, g⟩ := h
  refine ⟨f, fd, F.ok (k := 0) scSpread (fun vs H Q E h => ?_) (fun cdv A outer s H vs Q E hr h => ?_), g, F.kp, F.binds fun _ _ _ _ _ _ us hl => match us, hl with | [_, _], _ => rfl⟩
  · obtain ⟨Dl, ds, n, r, ps, d, av, rfl, _⟩ := h
    rfl
  · obtain ⟨Dl, ds, n, r, ps, d, av, rfl, eD, dl, rw0, hk, T, r0, r1, tr, q⟩ := h
    have n2 := hk.n2
    refine ⟨_, pss_cons (ps_set (i := 2) scSpread.nd rfl (by first | exact Or.inl rfl | exact Or.inr rfl) (pe_disp (pps_cons (pv 1) pe_int pps_nil) (by rfl) (by rfl) (fun z => by cases z) (by decide)))
      (pss_cons (ps_set (i := 3) scSpread.nd rfl (by first | exact Or.inl rfl | exact Or.inr rfl) pe_dnewK)
      (pss_cons (ps_set (i := 4) scSpread.nd rfl (by first | exact Or.inl rfl | exact Or.inr rfl) (pe_lst (pa_cons (pv 1) pa_nil)))
      (pss_cons (ps_while PassesOwn.never (pt_truth (pv 4) (by intro _; rfl))
      (pss_cons (ps_set (i := 5) scSpread.nd rfl (by first | exact Or.inl rfl | exact Or.inr rfl) (pe_bm0 PySem.F.plainAttrs_list PySem.F.slot_list_pop PySem.F.type_list_pop mt_pop (pv 4)))
      (pss_one (ps_for PassesOwn.never rfl (pi_list (pe_ix ix_list (pv 0) (pv 5) (fun _ _ => rfl))) (pg_tup (by rfl) (pgs_cons (pg_name (i := 6) scSpread.nd rfl (by first | exact Or.inl rfl | exact Or.inr rfl)) (pgs_cons (pg_name (i := 7) scSpread.nd rfl (by first | exact Or.inl rfl | exact Or.inr rfl)) (pgs_cons (pg_name (i := 8) scSpread.nd rfl (by first | exact Or.inl rfl | exact Or.inr rfl)) (pgs_cons (pg_name (i := 9) scSpread.nd rfl (by first | exact Or.inl rfl | exact Or.inr rfl)) pgs_nil)))))
      (pss_one (ps_if (pt_cmp (pc_dnotin (hu_of hr) (pv 8) (pv 2))) (pss_cons (ps_dput (hu_of hr) (pv 2) (pv 8) (pe_op op_add (pe_dget (hu_of hr) (pv 2) (pv 5) (fun _ _ => rfl)) (pe_callB call_abs (by rfl) B.abs_ boot_abs (pa_cons (pe_op op_sub (pv 9) (pv 7)) pa_nil))) rfl)
      (pss_cons (ps_dput (hu_of hr) (pv 3) (pv 8) (pe_tup (pa_cons (pv 6) (pa_cons (pv 9) (pa_cons (pv 5) (pa_cons (pv 7) pa_nil))))) rfl)
      (pss_one (ps_expr (pe_bm PySem.F.plainAttrs_list PySem.F.slot_list_append PySem.F.type_list_append mt_append (pv 4) (pa_cons (pv 8) pa_nil)))))) pss_nil))))))
      (pss_one (ps_ret (pe_tup (pa_cons (pv 2) (pa_cons (pv 3) pa_nil)))))))), ?_⟩
    refine fun g ng => ⟨.int r, rfl, upd_same, [(Sum.inl r, .int 0)], rfl, by show 1 ≤ 15; decide, ?_⟩
    have eg0 : (upd (upd H g (.dK [])) g (.dK (mergeK [] [(Sum.inl r, V.int 0)]))) = upd H g (.dK [(Sum.inl r, V.int 0)]) := by rw [upd_upd]; rfl
    rw [eg0]
    refine fun w nw => ?_
    refine ⟨.int r, rfl, show 1 ≤ sizeLine by decide, fun td ntd => ?_⟩
    have ngw : g ≠ w := ne_of_none (upd_same (H := H) (a := g) (o := .dK [(Sum.inl r, V.int 0)])) nw
    have ew0 : (upd (upd H g (.dK [(Sum.inl r, V.int 0)])) w (.dK [])) w = some (.dK []) := upd_same
    have eg1 : (upd (upd H g (.dK [(Sum.inl r, V.int 0)])) w (.dK [])) g = some (.dK [(Sum.inl r, V.int 0)]) := by rw [upd_ne ngw]; exact upd_same
    have ngt : g ≠ td := ne_of_none eg1 ntd
    have nwt : w ≠ td := ne_of_none ew0 ntd
    have k0 : Keep [] H (upd (upd (upd H g (.dK [(Sum.inl r, V.int 0)])) w (.dK [])) td (.lst [.int r])) := (Keep.new ng).trans ((Keep.new nw).trans (Keep.new ntd))
    have fg : H g = none := ng
    have fw : H w = none := (Keep.new (av := []) ng).fr nw
    have ft : H td = none := ((Keep.new (av := []) ng).trans (Keep.new nw)).fr ntd
    refine ⟨fun m σ G => ∃ (F tds : List Int) (kg kw : List (Key × V)) (s5 s6 s7 s8 s9 : Option V), σ = [some (.ref Dl), some (.int r), some (.ref g), some (.ref w), some (.ref td), s5, s6, s7, s8, s9] ∧ Keep [] H G ∧ G g = some (.dK kg) ∧ G w = some (.dK kw) ∧ G td = some (.lst (tds.map V.int)) ∧
      SS n ps d r F tds [] ∧ GapE kg F d r ∧ TowE av G kw F ps d r ∧ kw.length ≤ F.length ∧ m = 2 * (16 - F.length) + tds.length, ⟨_, [r], [r], [(Sum.inl r, .int 0)], [], none, none, none, none, none, rfl, k0, ?_, ?_, upd_same, SS.first r0 r1, ⟨rfl, fun t ht => ?_, fun t ht => ?_⟩, fun t ht nt => absurd (List.mem_singleton.mp ht) nt, Nat.zero_le _, rfl⟩, fun m σ G p => ?_⟩
    · rw [upd_ne ngt]; exact eg1
    · rw [upd_ne nwt]; exact ew0
    · rw [List.mem_singleton.mp ht, T.zero]; exact valV_pos rfl
    · rw [valV_neg (fun z => ht (List.mem_singleton.mpr (Sum.inl.inj z).symm))]; rfl
    · obtain ⟨F, tds, kg, kw, s5, s6, s7, s8, s9, rfl, kG, eg, ew, et, S, ge, te, kl, rfl⟩ := p
      refine ⟨.ref td, rfl, _, .inl ⟨_, SqL.of et, rfl⟩, ?_⟩
      rcases List.eq_nil_or_concat tds with rfl | ⟨tl, hh, etl⟩
      · -- none waits
        rw [if_neg (show ¬ (!(([] : List Int).map V.int).isEmpty) = true by simp)]
        refine ⟨.ref g, rfl, .ref w, rfl, show 2 ≤ sizeLine by decide, fun t nt => ?_⟩
        have kN : Keep [] H (upd G t (.tup [.ref g, .ref w])) := kG.trans (Keep.new nt)
        refine q _ t g w kN (fun a m => ?_) (tr.not (kG.fr nt)) (tr.not fg) (tr.not fw) upd_same ⟨kg, ?_, fun u u0 u1 => ge.2.1 u (S.all T u0 u1)⟩ ⟨kw, ?_, fun u hu nu => ?_⟩
        · obtain ⟨o, e⟩ := tr a m
          exact ⟨o, kN a o e List.not_mem_nil⟩
        · rw [upd_ne (ne_of_none eg nt)]; exact eg
        · rw [upd_ne (ne_of_none ew nt)]; exact ew
        · have hu' := start_mem.mp hu
          exact te.keep (keepTupN nt) u (S.all T hu'.1 (by omega)) nu
      · rw [List.concat_eq_append] at etl
        subst etl
        rw [if_pos (show (!((tl ++ [hh]).map V.int).isEmpty) = true by simp)]
        have hF : hh ∈ F := S.sub hh (List.mem_append_right _ List.mem_cons_self)
        have hhr := S.rg hh hF
        have Fl := pigeon 16 F S.nd (fun t ht => by have := S.rg t ht; omega)
        rw [List.map_append] at et
        refine ⟨fun σ' G' => ∃ m', m' < 2 * (16 - F.length) + (tl ++ [hh]).length ∧ ∃ (F tds : List Int) (kg kw : List (Key × V)) (s5 s6 s7 s8 s9 : Option V), σ' = [some (.ref Dl), some (.int r), some (.ref g), some (.ref w), some (.ref td), s5, s6, s7, s8, s9] ∧ Keep [] H G' ∧ G' g = some (.dK kg) ∧ G' w = some (.dK kw) ∧ G' td = some (.lst (tds.map V.int)) ∧
          SS n ps d r F tds [] ∧ GapE kg F d r ∧ TowE av G' kw F ps d r ∧ kw.length ≤ F.length ∧ m' = 2 * (16 - F.length) + tds.length, fun σ' G' h => h, ?_⟩
        refine ⟨.ref td, rfl, .inl ⟨rfl, _, SqL.of et⟩, td, _, .int hh, rfl, rfl, et, by simp, ?_⟩
        have edl : (tl.map V.int ++ [hh].map V.int).dropLast = tl.map V.int := by simp
        rw [edl]
        have kG2 : Keep [] H (upd G td (.lst (tl.map V.int))) := kG.upd ft
        have eg2 : (upd G td (.lst (tl.map V.int))) g = some (.dK kg) := by rw [upd_ne ngt]; exact eg
        have ew2 : (upd G td (.lst (tl.map V.int))) w = some (.dK kw) := by rw [upd_ne nwt]; exact ew
        have et2 : (upd G td (.lst (tl.map V.int))) td = some (.lst (tl.map V.int)) := upd_same
        have te2 := te.keep (keepTup (u := .lst (tl.map V.int)) et (fun xs z => by cases z))
        generalize upd G td (.lst (tl.map V.int)) = G2 at kG2 eg2 ew2 et2 te2 ⊢
        obtain ⟨a, ga⟩ : ∃ a, ds[hh.toNat]? = some a := ⟨_, List.getElem?_eq_getElem (by omega)⟩
        obtain ⟨ts, ea, da, la⟩ := rw0 hh.toNat a ga
        have eh : ((hh.toNat : Nat) : Int) = hh := by omega
        have da' : Dts av H ts ((doorsTo ps hh ps.length).map tupI) := by
          have z : Dts av H ts ((doorsTo ps ((hh.toNat : Nat) : Int) ps.length).map tupI) := da
          rw [eh] at z; exact z
        have S2 := S.pop
        refine ⟨.ref Dl, rfl, .int hh, rfl, Dl, _, hh, .ref a, rfl, rfl, SqL.of (kG2 Dl _ eD List.not_mem_nil), atI_of hhr.1 (by rw [List.getElem?_map, ga]; rfl), a, rfl, ⟨_, SqL.of (kG2 a _ ea List.not_mem_nil)⟩, ?_⟩
        refine for_list (K := K) (a := a) (xs := ts) (fun j σ J => ∃ (F' tds' : List Int) (kg kw : List (Key × V)) (s6 s7 s8 s9 : Option V), σ = [some (.ref Dl), some (.int r), some (.ref g), some (.ref w), some (.ref td), some (.int hh), s6, s7, s8, s9] ∧ Keep [] H J ∧ J g = some (.dK kg) ∧ J w = some (.dK kw) ∧ J td = some (.lst (tds'.map V.int)) ∧
          SS n ps d r F' tds' [hh] ∧ hh ∈ F' ∧ GapE kg F' d r ∧ TowE av J kw F' ps d r ∧ kw.length ≤ F'.length ∧ 2 * (16 - F'.length) + tds'.length ≤ 2 * (16 - F.length) + tl.length ∧ ∀ row ∈ (doorsTo ps hh ps.length).take j, row.getD 2 0 ∈ F')
          ⟨F, tl, kg, kw, _, _, _, _, rfl, kG2, eg2, ew2, et2, S2, hF, ge, te2, kl, Nat.le_refl _, fun row z => by simp at z⟩ (fun j σ J _ p => ?_) (fun j x σ J hx p => ?_) (fun σ J p => ?_)
        · obtain ⟨_, _, _, _, _, _, _, _, _, kJ, _⟩ := p
          exact SqL.of (kJ a _ ea List.not_mem_nil)
        · obtain ⟨F', tds', kg, kw, s6, s7, s8, s9, rfl, kJ, eg, ew, et, SJ, hF', ge, te, kl, ms, al⟩ := p
          obtain ⟨dd, gd, dx⟩ := (da'.keep kJ.of).getv j hx
          rw [List.getElem?_map] at gd
          obtain ⟨row, grow, rfl⟩ := Option.map_eq_some_iff.mp gd
          obtain ⟨i, il, hrow⟩ := mem_doors.mp (List.mem_of_getElem? grow)
          have pg := (hk.at il).2
          have pl := (hk.at il).1.fit.l1
          obtain ⟨ia, at', v, far, L, erow, hRE, habs, htow⟩ : ∃ ia at' v far L : Int, row = [ia, at', v, far] ∧ RE ps hh v L ∧ (if far - at' < 0 then -(far - at') else far - at') = L ∧ (d r v = d r hh + L → TowRow ps d r v [ia, far, hh, at']) := by
            rcases hrow with ⟨e, h⟩ | ⟨e, h⟩
            · exact ⟨_, _, _, _, _, h, ⟨i, _, pg, rfl, .inl ⟨e, rfl⟩⟩, by split <;> omega, fun z => ⟨i, _, pg, .inr ⟨by rw [e], rfl, by rw [e]; exact z.symm⟩⟩⟩
            · exact ⟨_, _, _, _, _, h, ⟨i, _, pg, rfl, .inr ⟨e, rfl⟩⟩, by split <;> omega, fun z => ⟨i, _, pg, .inl ⟨by rw [e], rfl, by rw [e]; exact z.symm⟩⟩⟩
          subst erow
          obtain ⟨Ta, rfl, nTa, eTa⟩ := tupI_at dx
          have tk : (doorsTo ps hh ps.length).take (j + 1) = (doorsTo ps hh ps.length).take j ++ [[ia, at', v, far]] := by rw [List.take_add_one, grow]; rfl
          refine ⟨Ta, [.int ia, .int at', .int v, .int far], rfl, SqT.of eTa, rfl, _, _, rfl, _, _, rfl, _, _, rfl, _, [], rfl, rfl, ?_⟩
          refine ⟨.int v, rfl, .ref g, rfl, g, _, rfl, DGet.k (k := Sum.inl v) eg, _, rfl, ?_⟩
          by_cases hv : v ∈ F'
          · rw [ge.2.1 v hv]
            refine iteF ?_
            refine ⟨F', tds', kg, kw, _, _, _, _, rfl, kJ, eg, ew, et, SJ, hF', ge, te, kl, ms, fun row hrow => ?_⟩
            rw [tk] at hrow
            rcases List.mem_append.mp hrow with m | m
            · exact al row m
            · rw [List.mem_singleton.mp m]; exact hv
          · rw [ge.2.2 v hv]
            refine iteT ?_
            obtain ⟨SN, dv⟩ := SJ.add T hF' hv hRE
            have Fl' := pigeon 16 (F' ++ [v]) SN.nd (fun t ht => by have := SN.rg t ht; omega)
            rw [List.length_append, List.length_singleton] at Fl'
            have kgl : kg.length < sizeLine := by rw [ge.1]; exact Nat.lt_of_lt_of_le (by omega : F'.length < 1000) (small1000 (by omega))
            refine ⟨.ref g, rfl, .int hh, rfl, g, .int (d r hh), rfl, by rw [← ge.2.1 hh hF']; exact DGet.k (k := Sum.inl hh) eg, .int far, rfl, .int at', rfl, far, at', rfl, rfl, far - at', rfl, d r hh, _, rfl, rfl, .ref g, rfl, .int v, rfl, g, _, rfl, (show DPut J g (.int v) (.int (d r hh + (if far - at' < 0 then -(far - at') else far - at'))) _ from DPut.k (k := Sum.inl v) eg kgl), ?_⟩
            rw [habs, ← dv]
            have ew1 : (upd J g (.dK (putK kg (Sum.inl v) (.int (d r v))))) w = some (.dK kw) := by rw [upd_ne ngw.symm]; exact ew
            have et1 : (upd J g (.dK (putK kg (Sum.inl v) (.int (d r v))))) td = some (.lst (tds'.map V.int)) := by rw [upd_ne ngt.symm]; exact et
            have eg1 : (upd J g (.dK (putK kg (Sum.inl v) (.int (d r v))))) g = some (.dK (putK kg (Sum.inl v) (.int (d r v)))) := upd_same
            have te1 := te.keep (keepTup (u := .dK (putK kg (Sum.inl v) (.int (d r v)))) eg (fun xs z => by cases z))
            have k1 : Keep [] H (upd J g (.dK (putK kg (Sum.inl v) (.int (d r v))))) := kJ.upd fg
            have ge1 := ge.put hv
            generalize upd J g (.dK (putK kg (Sum.inl v) (.int (d r v)))) = J1 at ew1 et1 eg1 te1 k1 ⊢
            refine ⟨.int ia, rfl, .int far, rfl, .int hh, rfl, .int at', rfl, show 4 ≤ sizeLine by decide, fun Tn nTn => ?_⟩
            have kwl : kw.length < sizeLine := Nat.lt_of_lt_of_le (by omega : kw.length < 1000) (small1000 (by omega))
            have ew2 : (upd J1 Tn (.tup [.int ia, .int far, .int hh, .int at'])) w = some (.dK kw) := by rw [upd_ne (ne_of_none ew1 nTn)]; exact ew1
            refine ⟨.ref w, rfl, .int v, rfl, w, _, rfl, DPut.k (k := Sum.inl v) ew2 kwl, ?_⟩
            have nTw : Tn ≠ w := (ne_of_none ew1 nTn).symm
            have et3 : (upd (upd J1 Tn (.tup [.int ia, .int far, .int hh, .int at'])) w (.dK (putK kw (Sum.inl v) (.ref Tn)))) td = some (.lst (tds'.map V.int)) := by rw [upd_ne nwt.symm, upd_ne (ne_of_none et1 nTn)]; exact et1
            have eg3 : (upd (upd J1 Tn (.tup [.int ia, .int far, .int hh, .int at'])) w (.dK (putK kw (Sum.inl v) (.ref Tn)))) g = some (.dK (putK kg (Sum.inl v) (.int (d r v)))) := by rw [upd_ne ngw, upd_ne (ne_of_none eg1 nTn)]; exact eg1
            have ew3 : (upd (upd J1 Tn (.tup [.int ia, .int far, .int hh, .int at'])) w (.dK (putK kw (Sum.inl v) (.ref Tn)))) w = some (.dK (putK kw (Sum.inl v) (.ref Tn))) := upd_same
            have eT3 : (upd (upd J1 Tn (.tup [.int ia, .int far, .int hh, .int at'])) w (.dK (putK kw (Sum.inl v) (.ref Tn)))) Tn = some (.tup ([ia, far, hh, at'].map V.int)) := by rw [upd_ne nTw]; exact upd_same
            have te3 := (te1.keep (keepTupN (u := .tup [.int ia, .int far, .int hh, .int at']) nTn)).keep (keepTup (u := .dK (putK kw (Sum.inl v) (.ref Tn))) ew2 (fun xs z => by cases z))
            have k3 : Keep [] H (upd (upd J1 Tn (.tup [.int ia, .int far, .int hh, .int at'])) w (.dK (putK kw (Sum.inl v) (.ref Tn)))) := (k1.trans (Keep.new nTn)).upd fw
            have nTav : Tn ∉ av := tr.not (k1.fr nTn)
            generalize upd (upd J1 Tn (.tup [.int ia, .int far, .int hh, .int at'])) w (.dK (putK kw (Sum.inl v) (.ref Tn))) = J3 at et3 eg3 ew3 eT3 te3 k3 ⊢
            have tdl : tds'.length ≤ 100 := by have := SJ.few; omega
            refine ⟨.ref td, rfl, .inl ⟨rfl, _, SqL.of et3⟩, .int v, rfl, td, _, _, rfl, rfl, et3, by rw [List.length_map]; exact Nat.lt_of_lt_of_le (by omega : tds'.length < 1000) (small1000 (by omega)), ?_⟩
            refine ⟨F' ++ [v], tds' ++ [v], _, _, _, _, _, _, rfl, k3.upd ft, by rw [upd_ne ngt]; exact eg3, by rw [upd_ne nwt]; exact ew3, by rw [upd_same, List.map_append]; rfl, SN, List.mem_append_left _ hF', ge1, fun t ht nt => ?_, ?_, ?_, fun row hrow => ?_⟩
            · by_cases ev : t = v
              · subst ev
                exact ⟨Tn, _, by rw [valV_put, if_pos rfl], nTav, keepTup (u := .lst (tds'.map V.int ++ [V.int t])) et3 (fun xs z => by cases z) _ _ eT3, htow dv⟩
              · rcases List.mem_append.mp ht with m | m
                · obtain ⟨T', row', h1, h2, h3, h4⟩ := te3.keep (keepTup (u := .lst (tds'.map V.int ++ [V.int v])) et3 (fun xs z => by cases z)) t m nt
                  exact ⟨T', row', by rw [valV_put, if_neg (fun z => ev (Sum.inl.inj z))]; exact h1, h2, h3, h4⟩
                · exact absurd (List.mem_singleton.mp m) ev
            · have := DSub.putK_len kw (Sum.inl v) (V.ref Tn)
              rw [List.length_append, List.length_singleton]; omega
            · rw [List.length_append, List.length_append, List.length_singleton]
              omega
            · rw [tk] at hrow
              rcases List.mem_append.mp hrow with m | m
              · exact List.mem_append_left _ (al row m)
              · rw [List.mem_singleton.mp m]; exact List.mem_append_right _ List.mem_cons_self
        · obtain ⟨F', tds', kg', kw', s6', s7', s8', s9', rfl, kJ, egJ, ewJ, etJ, SJ, hFJ, geJ, teJ, klJ, ms, al⟩ := p
          refine ⟨_, ?_, F', tds', kg', kw', _, _, _, _, _, rfl, kJ, egJ, ewJ, etJ, SJ.done (fun v w' e => ?_), geJ, teJ, klJ, rfl⟩
          · rw [List.length_append, List.length_singleton]; omega
          · obtain ⟨i, p, ei, hw, hp⟩ := e
            have il : i < ps.length := (List.getElem?_eq_some_iff.mp ei).1
            have ln : ts.length = (doorsTo ps hh ps.length).length := by rw [da'.len, List.length_map]
            rw [ln, List.take_length] at al
            rcases hp with ⟨h1, h2⟩ | ⟨h1, h2⟩
            · have := al _ (mem_doors.mpr ⟨i, il, .inl ⟨by rw [pr_of ei]; exact h1, rfl⟩⟩)
              rw [pr_of ei] at this
              rw [← h2]; exact this
            · have := al _ (mem_doors.mpr ⟨i, il, .inr ⟨by rw [pr_of ei]; exact h1, rfl⟩⟩)
              rw [pr_of ei] at this
              rw [← h2]; exact this
end
end Rw

namespace Rw
open PySem PySem.Spec PyProof.Rows L2
/-! ### a house's plan -/
def pf1 (b : V) : List (Str × V) := [("built", b)]
def pf2 (b p : V) : List (Str × V) := [("built", b), ("pipes", p)]
def pf3 (b p e : V) : List (Str × V) := [("built", b), ("pipes", p), ("doors", e)]
def pf4 (b p e g : V) : List (Str × V) := [("built", b), ("pipes", p), ("doors", e), ("gaps", g)]
def pf5 (b p e g t : V) : List (Str × V) := [("built", b), ("pipes", p), ("doors", e), ("gaps", g), ("towards", t)]
theorem putF_new {k : Str} {v : V} : ∀ fs : List (Str × V), (fs.all fun e => !decide (e.1 = k)) = true → putF k v fs = fs ++ [(k, v)]
  | [], _ => rfl
  | (x, y) :: r, h => by
    rw [List.all_cons, Bool.and_eq_true] at h
    have n : ¬ x = k := by
      intro z
      rw [decide_eq_true z] at h
      cases h.1
    show (if x = k then _ else (x, y) :: putF k v r) = _
    rw [if_neg n, putF_new r h.2]; rfl
theorem pf_2 (b p : V) : putF "pipes" p (pf1 b) = pf2 b p := putF_new (k := "pipes") (pf1 b) (by show (!decide (("built" : Str) = "pipes") && true) = true; decide +kernel)
theorem pf_3 (b p e : V) : putF "doors" e (pf2 b p) = pf3 b p e := putF_new (k := "doors") (pf2 b p) (by show (!decide (("built" : Str) = "doors") && (!decide (("pipes" : Str) = "doors") && true)) = true; decide +kernel)
theorem pf_4 (b p e g : V) : putF "gaps" g (pf3 b p e) = pf4 b p e g := putF_new (k := "gaps") (pf3 b p e) (by show (!decide (("built" : Str) = "gaps") && (!decide (("pipes" : Str) = "gaps") && (!decide (("doors" : Str) = "gaps") && true))) = true; decide +kernel)
theorem pf_5 (b p e g t : V) : putF "towards" t (pf4 b p e g) = pf5 b p e g t := putF_new (k := "towards") (pf4 b p e g) (by show (!decide (("built" : Str) = "towards") && (!decide (("pipes" : Str) = "towards") && (!decide (("doors" : Str) = "towards") && (!decide (("gaps" : Str) = "towards") && true)))) = true; decide +kernel)
theorem lk_no {k x : Str} {y : V} {r : List (Str × V)} (h : (k == x) = false) : ((x, y) :: r).lookup k = r.lookup k := by simp only [List.lookup, h]
theorem lk_yes {k : Str} {y : V} {r : List (Str × V)} : ((k, y) :: r).lookup k = some y := by simp [List.lookup]
theorem pf_built (b p e g t : V) : (pf5 b p e g t).lookup ("built" : Str) = some b := lk_yes
theorem pf_pipes (b p e g t : V) : (pf5 b p e g t).lookup ("pipes" : Str) = some p := ((lk_no (k := "pipes") (x := "built") (by decide +kernel)).trans lk_yes)
theorem pf_doors (b p e g t : V) : (pf5 b p e g t).lookup ("doors" : Str) = some e := ((lk_no (k := "doors") (x := "built") (by decide +kernel)).trans ((lk_no (k := "doors") (x := "pipes") (by decide +kernel)).trans lk_yes))
theorem pf_gaps (b p e g t : V) : (pf5 b p e g t).lookup ("gaps" : Str) = some g := ((lk_no (k := "gaps") (x := "built") (by decide +kernel)).trans ((lk_no (k := "gaps") (x := "pipes") (by decide +kernel)).trans ((lk_no (k := "gaps") (x := "doors") (by decide +kernel)).trans lk_yes)))
theorem pf_tow (b p e g t : V) : (pf5 b p e g t).lookup ("towards" : Str) = some t := ((lk_no (k := "towards") (x := "built") (by decide +kernel)).trans ((lk_no (k := "towards") (x := "pipes") (by decide +kernel)).trans ((lk_no (k := "towards") (x := "doors") (by decide +kernel)).trans ((lk_no (k := "towards") (x := "gaps") (by decide +kernel)).trans lk_yes))))
def PlanAt (C : Addr) (av : List Addr) (H : Hp) (a : Addr) (n : Int) (ps : List Pi) (d : Int → Int → Int) : Prop :=
  ∃ (dx hb pp dl gl tl : Addr) (xp : List V) (ds gs ws : List Addr), a ∉ av ∧ H a = some (.ins C dx (pf5 (.ref hb) (.ref pp) (.ref dl) (.ref gl) (.ref tl))) ∧ hb ∉ av ∧ H hb = some (.tup [.int n, .ref pp]) ∧ pp ∉ av ∧ H pp = some (.tup xp) ∧ Dts av H xp (ps.map Pi.dat) ∧
    dl ∉ av ∧ H dl = some (.lst (ds.map V.ref)) ∧ (ds.length : Int) = n ∧ (∀ z ∈ ds, z ∉ av) ∧ Rws av H ds (fun r => doorsTo ps (r : Int) ps.length) 100 ∧
    gl ∉ av ∧ H gl = some (.lst (gs.map V.ref)) ∧ gs.length = n.toNat ∧ (∀ (r : Nat) (z : Addr), gs[r]? = some z → z ∉ av ∧ GapsAt H z n d (r : Int)) ∧
    tl ∉ av ∧ H tl = some (.lst (ws.map V.ref)) ∧ ws.length = n.toNat ∧ ∀ (r : Nat) (z : Addr), ws[r]? = some z → z ∉ av ∧ TowAt av H z n ps d (r : Int)
theorem GapsAt.keep {av : List Addr} {H H' : Hp} {z : Addr} {n r : Int} {d : Int → Int → Int} (h : GapsAt H z n d r) (nz : z ∉ av) (k : Keep av H H') : GapsAt H' z n d r := by
  obtain ⟨kvs, e, h⟩ := h
  exact ⟨kvs, k z _ e nz, h⟩
theorem TowAt.keep {av : List Addr} {H H' : Hp} {z : Addr} {n r : Int} {ps : List Pi} {d : Int → Int → Int} (h : TowAt av H z n ps d r) (nz : z ∉ av) (k : Keep av H H') : TowAt av H' z n ps d r := by
  obtain ⟨kvs, e, h⟩ := h
  refine ⟨kvs, k z _ e nz, fun t ht nt => ?_⟩
  obtain ⟨T, row, h1, h2, h3, h4⟩ := h t ht nt
  exact ⟨T, row, h1, h2, k T _ h3 h2, h4⟩
theorem TowAt.less {av av' : List Addr} {H : Hp} {z : Addr} {n r : Int} {ps : List Pi} {d : Int → Int → Int} (h : TowAt av H z n ps d r) (s : ∀ a ∈ av', a ∈ av) : TowAt av' H z n ps d r := by
  obtain ⟨kvs, e, h⟩ := h
  refine ⟨kvs, e, fun t ht nt => ?_⟩
  obtain ⟨T, row, h1, h2, h3, h4⟩ := h t ht nt
  exact ⟨T, row, h1, fun m => h2 (s T m), h3, h4⟩
theorem Rws.keep {av : List Addr} {G G' : Hp} {ds : List Addr} {f : Nat → List (List Int)} {m : Nat} (h : Rws av G ds f m) (nz : ∀ z ∈ ds, z ∉ av) (k : Keep av G G') : Rws av G' ds f m := fun r a e => by
  obtain ⟨ts, h1, h2, h3⟩ := h r a e
  exact ⟨ts, k a _ h1 (nz a (List.mem_of_getElem? e)), h2.keep k, h3⟩
theorem Rws.more {av : List Addr} {G : Hp} {ds : List Addr} {f : Nat → List (List Int)} {m : Nat} {p : Addr} (h : Rws av G ds f m) (n : G p = none) : Rws (p :: av) G ds f m := fun r a e => by
  obtain ⟨ts, h1, h2, h3⟩ := h r a e
  exact ⟨ts, h1, h2.more n, h3⟩
theorem PlanAt.keep {C : Addr} {av : List Addr} {H H' : Hp} {a : Addr} {n : Int} {ps : List Pi} {d : Int → Int → Int} (h : PlanAt C av H a n ps d) (k : Keep av H H') : PlanAt C av H' a n ps d := by
  obtain ⟨dx, hb, pp, dl, gl, tl, xp, ds, gs, ws, a1, a2, a3, a4, a5, a6, a7, a8, a9, b1, b2, b3, b4, b5, b6, b7, b8, b9, c1, c2⟩ := h
  exact ⟨dx, hb, pp, dl, gl, tl, xp, ds, gs, ws, a1, k _ _ a2 a1, a3, k _ _ a4 a3, a5, k _ _ a6 a5, a7.keep k, a8, k _ _ a9 a8, b1, b2, b3.keep b2 k, b4, k _ _ b5 b4, b6, fun r z e => ⟨(b7 r z e).1, (b7 r z e).2.keep (b7 r z e).1 k⟩, b8, k _ _ b9 b8, c1, fun r z e => ⟨(c2 r z e).1, (c2 r z e).2.keep (c2 r z e).1 k⟩⟩
theorem PlanAt.less {C : Addr} {av av' : List Addr} {H : Hp} {a : Addr} {n : Int} {ps : List Pi} {d : Int → Int → Int} (h : PlanAt C av H a n ps d) (s : ∀ a ∈ av', a ∈ av) : PlanAt C av' H a n ps d := by
  obtain ⟨dx, hb, pp, dl, gl, tl, xp, ds, gs, ws, a1, a2, a3, a4, a5, a6, a7, a8, a9, b1, b2, b3, b4, b5, b6, b7, b8, b9, c1, c2⟩ := h
  have f : ∀ {z : Addr}, z ∉ av → z ∉ av' := fun nz m => nz (s _ m)
  exact ⟨dx, hb, pp, dl, gl, tl, xp, ds, gs, ws, f a1, a2, f a3, a4, f a5, a6, a7.less s, f a8, a9, b1, fun z m => f (b2 z m), b3.less s, f b4, b5, b6, fun r z e => ⟨f (b7 r z e).1, (b7 r z e).2⟩, f b8, b9, c1, fun r z e => ⟨f (c2 r z e).1, (c2 r z e).2.less s⟩⟩
/-! a class of the program whose __init__ keeps a promise -/
def CanMk (P : Program) (w : World) (K : PySem.W.Frag) (mg : Str → Option Value) (base : Heap) (x : Str) (C : Addr) (ps : List Str) (k : Nat) (sp : Sp) : Prop := ∃ f fd, Mk K C f ∧ FnOk P w K mg base CX0 k f fd ps sp ∧ mg x = some (.ref C) ∧ Binds K fd ps []
theorem pe_mk {X : Cx} {x : Str} {C : Addr} {ps : List Str} {k : Nat} {sp : Sp} {e : Expr} {es : List Expr} {t : TA} {p pos : Pos} (M : CanMk X.prog X.w X.K X.mg X.base x C ps k sp) (hr : Room (k + 1) X.A) (hg : Gl X x)
    (ha : PA X (e :: es) t) (hdb : (x == ("__debug__" : Str)) = false := by decide) (he : starEach (e :: es) X.env = (false, eval e X.env) :: starEach es X.env := by rfl) (hpl : (backTo pos (starEach es X.env)).any (·.1) = false := by rfl) :
    PE X (.Call (.Name x p) (e :: es) [] pos) (tMake C sp [] E0 t) := by
  obtain ⟨f, fd, M, F, gm, b⟩ := M
  exact pe_make M F hr hg gm b .nil pass0 ha hdb he hpl
structure PlanTxt (K : PySem.W.Frag) (C : Addr) : Prop where
  cl : Cls K C
  nB : NoAttr K C "built"
  nP : NoAttr K C "pipes"
  nD : NoAttr K C "doors"
  nG : NoAttr K C "gaps"
  nT : NoAttr K C "towards"
section
variable {P : Program} {w : World} {K : PySem.W.Frag} {mg : Str → Option Value} {base : Heap}
abbrev sInit : Stmt := inClass (topS 12) 0
abbrev nInit : List Str := ["self", "house", "room", "gaps", "towards"]
theorem scInit : FnScope nInit ["self", "house"] (defScope sInit) := ⟨rfl, rfl, rfl, by decide +kernel, rfl, by decide +kernel, by decide +kernel⟩
def spInit (C : Addr) : Sp := fun vs H Q _ => ∃ (x dx : Addr) (h : V) (n : Int) (ps : List Pi) (d : Int → Int → Int) (av : List Addr), vs = [.ref x, h] ∧ H x = some (.ins C dx []) ∧ x ∉ av ∧ Dt (x :: av) H h (houseD n (ps.map Pi.dat)) ∧ HouseOk n ps ∧ Tm n ps d ∧ Tr av H ∧
  ∀ H' : Hp, Keep [x] H H' → Tr av H' → PlanAt C av H' x n ps d → Q .non H'
theorem ok_init {C f : Addr} {fd : FuncData} (F : Fun K "__init__" "Plan.__init__" sInit f fd) (B : Blt mg) (X : PlanTxt K C) (CD : Can P w K mg base "doors_of" ["house"] 1 spDoors) (CS : Can P w K mg base "spread_from" ["doors", "room"] 1 spSpread) : FnOk P w K mg base CX0 2 f fd ["self", "house"] (spInit C) := by
  refine F.ok (k := 1) scInit (fun vs H Q E h => ?_) (fun cdv A outer s H vs Q E hr h => ?_)
  · obtain ⟨x, dx, h, n, ps, d, av, rfl, _⟩ := h
    rfl
  · obtain ⟨x, dx, h, n, ps, d, av, rfl, ex, nx, hh, hk, T, tr, q⟩ := h
    have n1 := hk.n1
    have n2 := hk.n2
    refine ⟨_, pss_cons (ps_fld (pv 0) (pv 1) rfl)
      (pss_cons (ps_fld (pv 0) (pe_ix ix_tup (pv 1) pe_int (fun _ _ => rfl)) rfl)
      (pss_cons (ps_fld (pv 0) (pe_can CD (hr.mono (by decide)) (by rfl) (pa_cons (pv 1) pa_nil)) rfl)
      (pss_cons (ps_fld (pv 0) (pe_lst pa_nil) rfl)
      (pss_cons (ps_fld (pv 0) (pe_lst pa_nil) rfl)
      (pss_one (ps_for PassesOwn.never rfl (pi_range1 (by rfl) B.range_ (pa_cons (pe_ix ix_tup (pv 1) pe_int (fun _ _ => rfl)) pa_nil)) (pg_name (i := 2) scInit.nd rfl (by first | exact Or.inl rfl | exact Or.inr rfl))
      (pss_cons (ps_asg (pe_can CS (hr.mono (by decide)) (by rfl) (pa_cons (pe_fld (pv 0) rfl) (pa_cons (pv 2) pa_nil))) (pg_tup (by rfl) (pgs_cons (pg_name (i := 3) scInit.nd rfl (by first | exact Or.inl rfl | exact Or.inr rfl)) (pgs_cons (pg_name (i := 4) scInit.nd rfl (by first | exact Or.inl rfl | exact Or.inr rfl)) pgs_nil))))
      (pss_cons (ps_expr (pe_bm PySem.F.plainAttrs_list PySem.F.slot_list_append PySem.F.type_list_append mt_append (pe_fld (pv 0) rfl) (pa_cons (pv 3) pa_nil)))
      (pss_one (ps_expr (pe_bm PySem.F.plainAttrs_list PySem.F.slot_list_append PySem.F.type_list_append mt_append (pe_fld (pv 0) rfl) (pa_cons (pv 4) pa_nil)))))))))))), ?_⟩
    obtain ⟨ah, ap, xp, rfl, na, ea, nb, eb, db⟩ := house_parts hh
    have nax : ah ≠ x := fun z => na (by rw [z]; exact List.mem_cons_self)
    have nbx : ap ≠ x := fun z => nb (by rw [z]; exact List.mem_cons_self)
    refine ⟨.ref ah, rfl, .ref x, rfl, x, C, dx, [], rfl, ex, X.cl, X.nB, by show 0 < 1000; decide, ?_⟩
    refine ⟨.ref ah, rfl, ah, [.int n, .ref ap], 1, .ref ap, rfl, rfl, SqT.of (by rw [upd_ne nax]; exact ea), atI_nat (j := 1) rfl, .ref x, rfl, x, C, dx, _, rfl, upd_same, X.cl, X.nP, by show 1 < 1000; decide, ?_⟩
    rw [upd_upd, show putF "built" (V.ref ah) [] = pf1 (.ref ah) from rfl, pf_2]
    have kx : ∀ o, Keep (x :: av) H (upd H x o) := fun o => Keep.put List.mem_cons_self
    have trx : ∀ o, Tr (x :: av) (upd H x o) := fun o => (tr.upd).cons upd_same
    refine ⟨.ref ah, rfl, .ref ah, n, ps, x :: av, rfl, hh.keep (kx _), hk, trx _, fun H1 Dl ds k1 fD nD nds tr1 eD dl rws => ?_⟩
    have ex1 := k1 x _ upd_same List.not_mem_nil
    refine ⟨.ref x, rfl, x, C, dx, _, rfl, ex1, X.cl, X.nD, by show 2 < 1000; decide, ?_⟩
    rw [pf_3]
    have nDx : Dl ≠ x := fun z => nD (by rw [z]; exact List.mem_cons_self)
    have kA : Keep [x] H (upd H1 x (.ins C dx (pf3 (.ref ah) (.ref ap) (.ref Dl)))) := ((Keep.put List.mem_cons_self).trans k1.of).trans (Keep.put List.mem_cons_self)
    have rwA : Rws (x :: av) (upd H1 x (.ins C dx (pf3 (.ref ah) (.ref ap) (.ref Dl)))) ds (fun r => doorsTo ps (r : Int) ps.length) 100 := rws.keep nds (Keep.put List.mem_cons_self)
    have eDA : (upd H1 x (.ins C dx (pf3 (.ref ah) (.ref ap) (.ref Dl)))) Dl = some (.lst (ds.map V.ref)) := by rw [upd_ne nDx]; exact eD
    have exA : (upd H1 x (.ins C dx (pf3 (.ref ah) (.ref ap) (.ref Dl)))) x = some (.ins C dx (pf3 (.ref ah) (.ref ap) (.ref Dl))) := upd_same
    have trA : Tr (x :: av) (upd H1 x (.ins C dx (pf3 (.ref ah) (.ref ap) (.ref Dl)))) := tr1.upd
    have kA2 : Keep (x :: av) H (upd H1 x (.ins C dx (pf3 (.ref ah) (.ref ap) (.ref Dl)))) := kA.mono (fun z m => by rw [List.mem_singleton.mp m]; exact List.mem_cons_self)
    generalize upd H1 x (.ins C dx (pf3 (.ref ah) (.ref ap) (.ref Dl))) = HA at kA kA2 rwA eDA exA trA ⊢
    refine ⟨show 0 ≤ sizeLine by decide, fun gl ngl => ?_⟩
    have exB : (upd HA gl (.lst [])) x = some (.ins C dx (pf3 (.ref ah) (.ref ap) (.ref Dl))) := by rw [upd_ne (ne_of_none exA ngl)]; exact exA
    refine ⟨.ref x, rfl, x, C, dx, _, rfl, exB, X.cl, X.nG, by show 3 < 1000; decide, ?_⟩
    rw [pf_4]
    refine ⟨show 0 ≤ sizeLine by decide, fun tl ntl => ?_⟩
    have ngx : gl ≠ x := (ne_of_none exA ngl).symm
    have egB : (upd (upd HA gl (.lst [])) x (.ins C dx (pf4 (.ref ah) (.ref ap) (.ref Dl) (.ref gl)))) gl = some (.lst []) := by rw [upd_ne ngx]; exact upd_same
    have exC : (upd (upd (upd HA gl (.lst [])) x (.ins C dx (pf4 (.ref ah) (.ref ap) (.ref Dl) (.ref gl)))) tl (.lst [])) x = some (.ins C dx (pf4 (.ref ah) (.ref ap) (.ref Dl) (.ref gl))) := by
      rw [upd_ne (ne_of_none upd_same ntl)]; exact upd_same
    refine ⟨.ref x, rfl, x, C, dx, _, rfl, exC, X.cl, X.nT, by show 4 < 1000; decide, ?_⟩
    rw [pf_5]
    have ntx : tl ≠ x := (ne_of_none (upd_same (H := upd HA gl (.lst [])) (a := x) (o := .ins C dx (pf4 (.ref ah) (.ref ap) (.ref Dl) (.ref gl)))) ntl).symm
    have ntg : tl ≠ gl := (ne_of_none egB ntl).symm
    have fgl : HA gl = none := ngl
    have ftl : HA tl = none := by rw [upd_ne ntx, upd_ne ntg] at ntl; exact ntl
    have nDg : Dl ≠ gl := ne_of_none eDA fgl
    have nDt : Dl ≠ tl := ne_of_none eDA ftl
    have nDav : Dl ∉ gl :: tl :: x :: av := fun m => by
      rcases List.mem_cons.mp m with m | m
      · exact nDg m
      · rcases List.mem_cons.mp m with m | m
        · exact nDt m
        · exact nD m
    have nds3 : ∀ z ∈ ds, z ∉ gl :: tl :: x :: av := fun z hz m => by
      obtain ⟨r, gr⟩ := List.mem_iff_getElem?.mp hz
      obtain ⟨ts, ez, _⟩ := rwA r z gr
      rcases List.mem_cons.mp m with m | m
      · exact ne_of_none ez fgl m
      · rcases List.mem_cons.mp m with m | m
        · exact ne_of_none ez ftl m
        · exact nds z hz m
    have fgH : H gl = none := by
      cases e : H gl with
      | none => rfl
      | some o => rw [kA gl o e (fun m => ngx (List.mem_singleton.mp m))] at fgl; cases fgl
    have ftH : H tl = none := by
      cases e : H tl with
      | none => rfl
      | some o => rw [kA tl o e (fun m => ntx (List.mem_singleton.mp m))] at ftl; cases ftl
    have m1 : gl ∈ gl :: tl :: x :: av := by simp
    have m2 : tl ∈ gl :: tl :: x :: av := by simp
    have m3 : x ∈ gl :: tl :: x :: av := by simp
    have exD := upd_same (H := upd (upd (upd HA gl (.lst [])) x (.ins C dx (pf4 (.ref ah) (.ref ap) (.ref Dl) (.ref gl)))) tl (.lst [])) (a := x) (o := .ins C dx (pf5 (.ref ah) (.ref ap) (.ref Dl) (.ref gl) (.ref tl)))
    have kD : Keep (gl :: tl :: x :: av) HA (upd (upd (upd (upd HA gl (.lst [])) x (.ins C dx (pf4 (.ref ah) (.ref ap) (.ref Dl) (.ref gl)))) tl (.lst [])) x (.ins C dx (pf5 (.ref ah) (.ref ap) (.ref Dl) (.ref gl) (.ref tl)))) := (((Keep.put m1).trans (Keep.put m3)).trans (Keep.put m2)).trans (Keep.put m3)
    have kDx : Keep [x] H (upd (upd (upd (upd HA gl (.lst [])) x (.ins C dx (pf4 (.ref ah) (.ref ap) (.ref Dl) (.ref gl)))) tl (.lst [])) x (.ins C dx (pf5 (.ref ah) (.ref ap) (.ref Dl) (.ref gl) (.ref tl)))) :=
      (((kA.trans (Keep.new ngl)).trans (Keep.put List.mem_cons_self)).trans (Keep.new ntl)).trans (Keep.put List.mem_cons_self)
    have egD : (upd (upd (upd (upd HA gl (.lst [])) x (.ins C dx (pf4 (.ref ah) (.ref ap) (.ref Dl) (.ref gl)))) tl (.lst [])) x (.ins C dx (pf5 (.ref ah) (.ref ap) (.ref Dl) (.ref gl) (.ref tl)))) gl = some (.lst []) := by
      rw [upd_ne ngx, upd_ne ntg.symm, upd_ne ngx]; exact upd_same
    have etD : (upd (upd (upd (upd HA gl (.lst [])) x (.ins C dx (pf4 (.ref ah) (.ref ap) (.ref Dl) (.ref gl)))) tl (.lst [])) x (.ins C dx (pf5 (.ref ah) (.ref ap) (.ref Dl) (.ref gl) (.ref tl)))) tl = some (.lst []) := by
      rw [upd_ne ntx]; exact upd_same
    have trD : Tr (gl :: tl :: x :: av) (upd (upd (upd (upd HA gl (.lst [])) x (.ins C dx (pf4 (.ref ah) (.ref ap) (.ref Dl) (.ref gl)))) tl (.lst [])) x (.ins C dx (pf5 (.ref ah) (.ref ap) (.ref Dl) (.ref gl) (.ref tl)))) := fun a m => by
      rcases List.mem_cons.mp m with m | m
      · rw [m]; exact ⟨_, egD⟩
      · rcases List.mem_cons.mp m with m | m
        · rw [m]; exact ⟨_, etD⟩
        · exact (((trA.upd).upd).upd).upd a m
    generalize upd (upd (upd (upd HA gl (.lst [])) x (.ins C dx (pf4 (.ref ah) (.ref ap) (.ref Dl) (.ref gl)))) tl (.lst [])) x (.ins C dx (pf5 (.ref ah) (.ref ap) (.ref Dl) (.ref gl) (.ref tl))) = HD at exD kD kDx egD etD trD ⊢
    have eaD := kDx ah _ ea (fun m => nax (List.mem_singleton.mp m))
    refine ⟨.ref ah, rfl, ah, [.int n, .ref ap], 0, .int n, rfl, rfl, SqT.of eaD, atI_nat (j := 0) rfl, n, rfl, by omega, by omega, for_range (lo := 0) (n := n.toNat)
      (fun i σ G => ∃ s2 s3 s4, σ = [some (.ref x), some (.ref ah), s2, s3, s4] ∧ Keep [x] H G ∧ Keep (gl :: tl :: x :: av) HA G ∧ Tr (gl :: tl :: x :: av) G ∧ G x = some (.ins C dx (pf5 (.ref ah) (.ref ap) (.ref Dl) (.ref gl) (.ref tl))) ∧
        ∃ gs ws : List Addr, gs.length = i ∧ ws.length = i ∧ G gl = some (.lst (gs.map V.ref)) ∧ G tl = some (.lst (ws.map V.ref)) ∧ (∀ (r : Nat) (z : Addr), gs[r]? = some z → z ∉ gl :: tl :: x :: av ∧ GapsAt G z n d (r : Int)) ∧ ∀ (r : Nat) (z : Addr), ws[r]? = some z → z ∉ gl :: tl :: x :: av ∧ TowAt (gl :: tl :: x :: av) G z n ps d (r : Int))
      ⟨_, _, _, rfl, kDx, kD, trD, exD, [], [], rfl, rfl, egD, etD, fun r z e => by simp at e, fun r z e => by simp at e⟩ (fun i σ G hi p => ?_) (fun σ G p => ?_)⟩
    · obtain ⟨s2, s3, s4, rfl, kG, kG2, trG, exG, gs, ws, lg, lw, eg, et, hg, hw⟩ := p
      have eDG := kG2 Dl _ eDA nDav
      have rwG : Rws (gl :: tl :: x :: av) G ds (fun r => doorsTo ps (r : Int) ps.length) 100 := by
        have z : Rws (gl :: tl :: x :: av) HA ds (fun r => doorsTo ps (r : Int) ps.length) 100 := by
          have z1 : Rws (tl :: x :: av) HA ds (fun r => doorsTo ps (r : Int) ps.length) 100 := rwA.more ftl
          exact z1.more fgl
        exact z.keep nds3 kG2
      refine ⟨.ref x, rfl, x, C, dx, _, .ref Dl, rfl, exG, X.cl, X.nD, pf_doors .., .int (0 + (i : Int)), rfl, Dl, ds, n, 0 + (i : Int), ps, d, gl :: tl :: x :: av, rfl, eDG, dl, rwG, hk, T, by omega, by omega, trG, fun G1 t g w k1 tr1 nt ng nw etp gp tw => ?_⟩
      refine ⟨t, [.ref g, .ref w], rfl, SqT.of etp, rfl, _, _, rfl, _, [], rfl, rfl, ?_⟩
      have ex1 := k1 x _ exG List.not_mem_nil
      have eg1 := k1 gl _ eg List.not_mem_nil
      have et1 := k1 tl _ et List.not_mem_nil
      refine ⟨.ref x, rfl, x, C, dx, _, .ref gl, rfl, ex1, X.cl, X.nG, pf_gaps .., .inl ⟨rfl, _, SqL.of eg1⟩, .ref g, rfl, gl, _, _, rfl, rfl, eg1, by rw [List.length_map]; exact Nat.lt_of_lt_of_le (by omega : gs.length < 1000) (small1000 (by omega)), ?_⟩
      have ex2 : (upd G1 gl (.lst (gs.map V.ref ++ [.ref g]))) x = some (.ins C dx (pf5 (.ref ah) (.ref ap) (.ref Dl) (.ref gl) (.ref tl))) := by rw [upd_ne ngx.symm]; exact ex1
      have et2 : (upd G1 gl (.lst (gs.map V.ref ++ [.ref g]))) tl = some (.lst (ws.map V.ref)) := by rw [upd_ne ntg]; exact et1
      refine ⟨.ref x, rfl, x, C, dx, _, .ref tl, rfl, ex2, X.cl, X.nT, pf_tow .., .inl ⟨rfl, _, SqL.of et2⟩, .ref w, rfl, tl, _, _, rfl, rfl, et2, by rw [List.length_map]; exact Nat.lt_of_lt_of_le (by omega : ws.length < 1000) (small1000 (by omega)), ?_⟩
      have kF : Keep (gl :: tl :: x :: av) G1 (upd (upd G1 gl (.lst (gs.map V.ref ++ [.ref g]))) tl (.lst (ws.map V.ref ++ [.ref w]))) := (Keep.put m1).trans (Keep.put m2)
      have kF0 : Keep (gl :: tl :: x :: av) G (upd (upd G1 gl (.lst (gs.map V.ref ++ [.ref g]))) tl (.lst (ws.map V.ref ++ [.ref w]))) := k1.of.trans kF
      have i0 : (0 + (i : Int)) = (i : Int) := by omega
      rw [i0] at gp tw
      refine ⟨_, _, _, rfl, ?_, kG2.trans kF0, (tr1.upd).upd, by rw [upd_ne ntx.symm]; exact ex2, gs ++ [g], ws ++ [w], by rw [List.length_append, lg]; rfl, by rw [List.length_append, lw]; rfl, ?_, ?_, fun r z e => ?_, fun r z e => ?_⟩
      · exact ((kG.trans k1.of).upd fgH).upd ftH
      · rw [upd_ne ntg.symm, upd_same, List.map_append]; rfl
      · rw [upd_same, List.map_append]; rfl
      · by_cases c : r < gs.length
        · rw [List.getElem?_append_left c] at e
          exact ⟨(hg r z e).1, (hg r z e).2.keep (hg r z e).1 kF0⟩
        · rw [List.getElem?_append_right (by omega)] at e
          have c2 : r - gs.length = 0 := by
            apply Classical.byContradiction
            intro c2
            rw [List.getElem?_eq_none (by simp; omega)] at e; cases e
          rw [c2] at e
          cases e
          have cr : r = i := by omega
          subst cr
          exact ⟨ng, gp.keep ng kF⟩
      · by_cases c : r < ws.length
        · rw [List.getElem?_append_left c] at e
          exact ⟨(hw r z e).1, (hw r z e).2.keep (hw r z e).1 kF0⟩
        · rw [List.getElem?_append_right (by omega)] at e
          have c2 : r - ws.length = 0 := by
            apply Classical.byContradiction
            intro c2
            rw [List.getElem?_eq_none (by simp; omega)] at e; cases e
          rw [c2] at e
          cases e
          have cr : r = i := by omega
          subst cr
          exact ⟨nw, tw.keep nw kF⟩
    · obtain ⟨s2, s3, s4, rfl, kG, kG2, trG, exG, gs, ws, lg, lw, eg, et, hg, hw⟩ := p
      have sub : ∀ a ∈ av, a ∈ gl :: tl :: x :: av := fun a m => by simp [m]
      have f : ∀ {z : Addr}, z ∉ gl :: tl :: x :: av → z ∉ av := fun nz m => nz (sub _ m)
      have f1 : ∀ {z : Addr}, z ∉ x :: av → z ∉ av := fun nz m => nz (List.mem_cons_of_mem _ m)
      have kav : Keep (x :: av) H G := kG.mono (fun z m => by rw [List.mem_singleton.mp m]; exact List.mem_cons_self)
      have rwG : Rws (gl :: tl :: x :: av) G ds (fun r => doorsTo ps (r : Int) ps.length) 100 := by
        have z : Rws (gl :: tl :: x :: av) HA ds (fun r => doorsTo ps (r : Int) ps.length) 100 := by
          have z1 : Rws (tl :: x :: av) HA ds (fun r => doorsTo ps (r : Int) ps.length) 100 := rwA.more ftl
          exact z1.more fgl
        exact z.keep nds3 kG2
      refine q G kG (fun a m => trG a (sub a m)) ⟨dx, ah, ap, Dl, gl, tl, xp, ds, gs, ws, nx, exG, f1 na, kav ah _ ea na, f1 nb, kav ap _ eb nb, (db.keep kav).less (fun a m => List.mem_cons_of_mem _ m), f nDav, kG2 Dl _ eDA nDav, dl, fun z m => f (nds3 z m), rwG.less sub, ?_, eg, lg, fun r z e => ⟨f (hg r z e).1, (hg r z e).2⟩, ?_, et, lw, fun r z e => ⟨f (hw r z e).1, (hw r z e).2.less sub⟩⟩
      · exact tr.not fgH
      · exact tr.not ftH
end
end Rw

namespace Rw
open PySem PySem.Spec PyProof.Rows L2
/-! ### how far places lie apart -/
def onePipe (p q : Pl) : Bool := decide (p.length = 2) && (decide (q.length = 2) && decide (p.headD 0 = q.headD 0))
def exitsL (ps : List Pi) : Pl → List (List Int)
  | [r] => [[r, 0]]
  | [i, a] => [[(pr ps i).x, a], [(pr ps i).y, (pr ps i).l - a]]
  | _ => []
theorem Dt.nil {av : List Addr} {H : Hp} {v : V} {d : PyData} (h : Dt av H v d) : Dt [] H v d := h.less fun _ m => nomatch m
section
variable {P : Program} {w : World} {K : PySem.W.Frag} {mg : Str → Option Value} {base : Heap}
abbrev sOnePipe : Stmt := topS 16
abbrev nOnePipe : List Str := ["one", "other"]
theorem scOnePipe : FnScope nOnePipe ["one", "other"] (defScope sOnePipe) := ⟨rfl, rfl, rfl, by decide +kernel, rfl, by decide +kernel, by decide +kernel⟩
def spOnePipe : Sp := fun vs H Q _ => ∃ (o1 o2 : V) (p q : Pl), vs = [o1, o2] ∧ Dt [] H o1 (tupI p) ∧ Dt [] H o2 (tupI q) ∧ p ≠ [] ∧ q ≠ [] ∧ Q (.bl (onePipe p q)) H
theorem ok_onePipe (h : Has K mg "are_in_one_pipe" sOnePipe) (B : Blt mg) : Can P w K mg base "are_in_one_pipe" ["one", "other"] 1 spOnePipe := by
  obtain ⟨f, fd, F, g⟩ := h
  refine ⟨f, fd, F.ok (k := 0) scOnePipe (fun vs H Q E h => ?_) (fun cdv A outer s H vs Q E hr h => ?_), g, F.kp, F.binds fun _ _ _ _ _ _ us hl => match us, hl with | [_, _], _ => rfl⟩
  · obtain ⟨o1, o2, p, q, rfl, _⟩ := h
    rfl
  · obtain ⟨o1, o2, p, q, rfl, h1, h2, n1, n2, k⟩ := h
    refine ⟨_, pss_one (ps_ret (pe_and (pe_cmpR op_eq (pe_callB call_len_seq (by rfl) B.len_ PySem.boot_len (pa_cons (pv 0) pa_nil)) pe_int (nomark _)) (pe_and (pe_cmpR op_eq (pe_callB call_len_seq (by rfl) B.len_ PySem.boot_len (pa_cons (pv 1) pa_nil)) pe_int (nomark _)) (pe_one (pe_cmpR op_eq (pe_ix ix_tup (pv 0) pe_int (fun _ _ => rfl)) (pe_ix ix_tup (pv 1) pe_int (fun _ _ => rfl)) (nomark _)))))), ?_⟩
    obtain ⟨a1, rfl, _, e1⟩ := tupI_at h1
    obtain ⟨a2, rfl, _, e2⟩ := tupI_at h2
    obtain ⟨x, xs, rfl⟩ := List.exists_cons_of_ne_nil n1
    obtain ⟨y, ys, rfl⟩ := List.exists_cons_of_ne_nil n2
    have l1 : decide (V.int (((x :: xs).map V.int).length : Int) = V.int 2) = decide ((x :: xs).length = 2) := by
      rw [List.length_map]; exact decide_eq_decide.mpr ⟨fun z => by have := V.int.inj z; omega, fun z => by rw [z]; rfl⟩
    have l2 : decide (V.int (((y :: ys).map V.int).length : Int) = V.int 2) = decide ((y :: ys).length = 2) := by
      rw [List.length_map]; exact decide_eq_decide.mpr ⟨fun z => by have := V.int.inj z; omega, fun z => by rw [z]; rfl⟩
    refine ⟨.ref a1, rfl, a1, _, rfl, .inr (SqT.of e1), rfl, _, rfl, ?_⟩
    rw [l1]
    unfold onePipe at k
    cases c1 : decide ((x :: xs).length = 2) with
    | false => rw [c1] at k; exact iteF k
    | true =>
      rw [c1] at k
      refine iteT ⟨.ref a2, rfl, a2, _, rfl, .inr (SqT.of e2), rfl, _, rfl, ?_⟩
      rw [l2]
      cases c2 : decide ((y :: ys).length = 2) with
      | false => rw [c2] at k; exact iteF k
      | true =>
        rw [c2] at k
        refine iteT ⟨.ref a1, rfl, a1, _, 0, .int x, rfl, rfl, SqT.of e1, atI_nat (j := 0) rfl, .ref a2, rfl, a2, _, 0, .int y, rfl, rfl, SqT.of e2, atI_nat (j := 0) rfl, rfl, ?_⟩
        have z : decide (V.int x = V.int y) = decide ((x :: xs).headD 0 = (y :: ys).headD 0) := decide_eq_decide.mpr ⟨fun z => V.int.inj z, fun z => congrArg V.int z⟩
        rw [z]; exact k
abbrev sExits : Stmt := topS 17
abbrev nExits : List Str := ["plan", "place", "one", "other", "length"]
theorem scExits : FnScope nExits ["plan", "place"] (defScope sExits) := ⟨rfl, rfl, rfl, by decide +kernel, rfl, by decide +kernel, by decide +kernel⟩
def spExits (C : Addr) : Sp := fun vs H Q _ => ∃ (a : Addr) (v : V) (n : Int) (ps : List Pi) (d : Int → Int → Int) (p : Pl) (av : List Addr), vs = [.ref a, v] ∧ PlanAt C [] H a n ps d ∧ Dt [] H v (tupI p) ∧ okP n ps p ∧ Tr av H ∧
  ∀ (H' : Hp) (l : Addr) (us : List V), Keep [] H H' → l ∉ av → H' l = some (.lst us) → Dts av H' us ((exitsL ps p).map tupI) → Q (.ref l) H'
theorem ok_exits {C : Addr} (h : Has K mg "exits_of" sExits) (B : Blt mg) (X : PlanTxt K C) : Can P w K mg base "exits_of" ["plan", "place"] 1 (spExits C) := by
  obtain ⟨f, fd, F, g⟩ := h
  refine ⟨f, fd, F.ok (k := 0) scExits (fun vs H Q E h => ?_) (fun cdv A outer s H vs Q E hr h => ?_), g, F.kp, F.binds fun _ _ _ _ _ _ us hl => match us, hl with | [_, _], _ => rfl⟩
  · obtain ⟨a, v, n, ps, d, p, av, rfl, _⟩ := h
    rfl
  · obtain ⟨a, v, n, ps, d, p, av, rfl, pl, hv, ok, tr, k⟩ := h
    refine ⟨_, pss_cons (ps_if (pt_cmpR op_eq (pe_callB call_len_seq (by rfl) B.len_ PySem.boot_len (pa_cons (pv 1) pa_nil)) pe_int (nomark _)) (pss_one (ps_ret (pe_lst (pa_cons (pe_tup (pa_cons (pe_ix ix_tup (pv 1) pe_int (fun _ _ => rfl)) (pa_cons pe_int pa_nil))) pa_nil)))) pss_nil)
      (pss_cons (ps_asg (pe_slice sl_tup (pe_ix ix_tup (pe_fld (pv 0) rfl) (pe_ix ix_tup (pv 1) pe_int (fun _ _ => rfl)) (fun _ _ => rfl)) po_none (po_some pe_int)) (pg_tup (by rfl) (pgs_cons (pg_name (i := 2) scExits.nd rfl (by first | exact Or.inl rfl | exact Or.inr rfl)) (pgs_cons (pg_name (i := 3) scExits.nd rfl (by first | exact Or.inl rfl | exact Or.inr rfl)) (pgs_cons (pg_name (i := 4) scExits.nd rfl (by first | exact Or.inl rfl | exact Or.inr rfl)) pgs_nil)))))
      (pss_one (ps_ret (pe_lst (pa_cons (pe_tup (pa_cons (pv 2) (pa_cons (pe_ix ix_tup (pv 1) pe_int (fun _ _ => rfl)) pa_nil))) (pa_cons (pe_tup (pa_cons (pv 3) (pa_cons (pe_op op_sub (pv 4) (pe_ix ix_tup (pv 1) pe_int (fun _ _ => rfl))) pa_nil))) pa_nil)))))), ?_⟩
    obtain ⟨a1, rfl, _, e1⟩ := tupI_at hv
    rcases ok_cases ok with ⟨r, rfl, r0, r1⟩ | ⟨i, b, rfl, h0, h1, b0, b1⟩
    · refine ⟨.ref a1, rfl, a1, _, rfl, .inr (SqT.of e1), rfl, true, rfl, iteT ?_⟩
      refine ⟨.ref a1, rfl, a1, _, 0, .int r, rfl, rfl, SqT.of e1, atI_nat (j := 0) rfl, show 2 ≤ sizeLine by decide, fun t nt => ⟨show 1 ≤ sizeLine by decide, fun l nl => ?_⟩⟩
      exact k _ l _ ((Keep.new nt).trans (Keep.new nl)) ((tr.upd).not nl) upd_same (.cons (.tup (tr.not nt) (Keep.new (av := []) nl t _ upd_same List.not_mem_nil) (Dts.ints [r, 0])) .nil)
    · refine ⟨.ref a1, rfl, a1, _, rfl, .inr (SqT.of e1), rfl, false, rfl, iteF ?_⟩
      obtain ⟨dx, hb, pp, dl, gl, tl, xp, ds, gs, ws, a1', a2, a3, a4, a5, a6, a7, _⟩ := pl
      obtain ⟨p, pa, T1, T2, mp, gp, ga, epa⟩ := pi_at a7 h0 h1
      have epr : p = pr ps i := by
        have z := (pr_mem h0 h1).2
        rw [z] at gp; exact (Option.some.inj gp).symm
      subst epr
      refine ⟨.ref a, rfl, a, C, dx, _, .ref pp, rfl, a2, X.cl, X.nP, pf_pipes .., .ref a1, rfl, a1, _, 0, .int i, rfl, rfl, SqT.of e1, atI_nat (j := 0) rfl, pp, xp, i, .ref pa, rfl, rfl, SqT.of a6, ga, 3, rfl, pa, [.int (pr ps i).x, .int (pr ps i).y, .int (pr ps i).l, .ref T1, .ref T2], rfl, SqT.of epa, show ¬ (HT.sIx 5 0 none = 0 ∧ HT.sIx 5 5 (some 3) = 5) by decide +kernel, fun T3 nT3 => ?_⟩
      refine ⟨T3, [.int (pr ps i).x, .int (pr ps i).y, .int (pr ps i).l], rfl, SqT.of (upd_same.trans (congrArg some (congrArg HO.tup (cut_to _ 3)))), rfl, _, _, rfl, _, _, rfl, _, [], rfl, rfl, ?_⟩
      have e2 := Keep.new (av := []) (o := .tup (cutV [V.int (pr ps i).x, .int (pr ps i).y, .int (pr ps i).l, .ref T1, .ref T2] none (some 3))) nT3 a1 _ e1 List.not_mem_nil
      refine ⟨.int (pr ps i).x, rfl, .ref a1, rfl, a1, _, 1, .int b, rfl, rfl, SqT.of e2, atI_nat (j := 1) rfl, show 2 ≤ sizeLine by decide, fun t nt => ?_⟩
      have e3 := Keep.new (av := []) (o := .tup [.int (pr ps i).x, .int b]) nt a1 _ e2 List.not_mem_nil
      refine ⟨.int (pr ps i).y, rfl, .int (pr ps i).l, rfl, .ref a1, rfl, a1, _, 1, .int b, rfl, rfl, SqT.of e3, atI_nat (j := 1) rfl, (pr ps i).l, b, rfl, rfl, show 2 ≤ sizeLine by decide, fun u nu => ⟨show 2 ≤ sizeLine by decide, fun l nl => ?_⟩⟩
      have kl : Keep [] _ _ := Keep.new (av := []) (o := .lst [.ref t, .ref u]) nl
      have ku : Keep [] _ _ := Keep.new (av := []) (o := .tup [.int (pr ps i).y, .int ((pr ps i).l - b)]) nu
      exact k _ l _ ((Keep.new nT3).trans ((Keep.new nt).trans (ku.trans kl))) ((((tr.upd).upd).upd).not nl) upd_same
        (.cons (.tup ((tr.upd).not nt) (kl t _ (ku t _ upd_same List.not_mem_nil) List.not_mem_nil) (Dts.ints [(pr ps i).x, b])) (.cons (.tup (((tr.upd).upd).not nu) (kl u _ upd_same List.not_mem_nil) (Dts.ints [(pr ps i).y, (pr ps i).l - b])) .nil))
end
end Rw

namespace Rw
open PySem PySem.Spec PyProof.Rows L2
theorem hu10 {k : Nat} {A : Around} (hr : Room k A) : A.units + 10 < cLine := by have := hr.units; omega
/-! the rows that are compared -/
def trip (d : Int → Int → Int) (e f : List Int) : List Int := [e.getD 1 0 + d (e.getD 0 0) (f.getD 0 0) + f.getD 1 0, e.getD 0 0, f.getD 0 0]
def trips (ps : List Pi) (d : Int → Int → Int) (p q : Pl) : List (List Int) := (exitsL ps p).flatMap fun e => (exitsL ps q).map (trip d e)
theorem exits_ok {n : Int} {ps : List Pi} {d : Int → Int → Int} (T : Tm n ps d) {p : Pl} (h : okP n ps p) : ∀ e ∈ exitsL ps p, ∃ r b, e = [r, b] ∧ 0 ≤ r ∧ r < n := by
  intro e he
  rcases ok_cases h with ⟨r, rfl, r0, r1⟩ | ⟨i, b, rfl, h0, h1, b0, b1⟩
  · rw [List.mem_singleton.mp (show e ∈ [[r, 0]] from he)]; exact ⟨r, 0, rfl, r0, r1⟩
  · obtain ⟨x0, x1, y0, y1, _⟩ := T.at h0 h1
    rcases List.mem_cons.mp (show e ∈ [[(pr ps i).x, b], [(pr ps i).y, (pr ps i).l - b]] from he) with rfl | he
    · exact ⟨_, _, rfl, x0, x1⟩
    · rw [List.mem_singleton.mp he]; exact ⟨_, _, rfl, y0, y1⟩
theorem exits_few (ps : List Pi) (p : Pl) : (exitsL ps p).length ≤ 2 := by
  unfold exitsL
  split <;> simp
theorem exits_ne {n : Int} {ps : List Pi} {p : Pl} (h : okP n ps p) : exitsL ps p ≠ [] := by
  rcases ok_cases h with ⟨r, rfl, _⟩ | ⟨i, b, rfl, _⟩
  · intro z; cases z
  · intro z; cases z
theorem lay_tups : ∀ nss : List (List Int), PyData.canLayAll0 (nss.map tupI) = true
  | [] => by simp only [List.map_nil, PyData.canLayAll0]
  | n :: ns => by
    rw [List.map_cons]
    show (PyData.canLay0 (.tuple (n.map .int)) && PyData.canLayAll0 (ns.map tupI)) = true
    rw [lay_tups ns, Bool.and_true]
    show PyData.canLay0 (.tuple (n.map .int)) = true
    simp only [PyData.canLay0, tupI_lay n]
section
variable {P : Program} {w : World} {K : PySem.W.Frag} {mg : Str → Option Value} {base : Heap}
abbrev sShort : Stmt := topS 18
abbrev nShort : List Str := ["plan", "one", "other", "near", "begin", "far", "end"]
theorem scShort : FnScope nShort ["plan", "one", "other"] (defScope sShort) := ⟨rfl, rfl, rfl, by decide +kernel, rfl, by decide +kernel, by decide +kernel⟩
def spShort (C : Addr) : Sp := fun vs H Q _ => ∃ (a : Addr) (o1 o2 : V) (n : Int) (ps : List Pi) (d : Int → Int → Int) (p q : Pl), vs = [.ref a, o1, o2] ∧ PlanAt C [] H a n ps d ∧ Tm n ps d ∧ Dt [] H o1 (tupI p) ∧ Dt [] H o2 (tupI q) ∧ okP n ps p ∧ okP n ps q ∧
  ∀ (H' : Hp) (v : V) (ns : List Int), Keep [] H H' → Dt [] H' v (tupI ns) → ns ∈ trips ps d p q → (∀ m ∈ trips ps d p q, ns.headD 0 ≤ m.headD 0) → Q v H'
theorem ok_short {C : Addr} (h : Has K mg "shortest" sShort) (B : Blt mg) (X : PlanTxt K C) (CE : Can P w K mg base "exits_of" ["plan", "place"] 1 (spExits C)) : Can P w K mg base "shortest" ["plan", "one", "other"] 2 (spShort C) := by
  obtain ⟨f, fd, F, g⟩ := h
  refine ⟨f, fd, F.ok (k := 1) scShort (fun vs H Q E h => ?_) (fun cdv A outer s H vs Q E hr h => ?_), g, F.kp, F.binds fun _ _ _ _ _ _ us hl => match us, hl with | [_, _, _], _ => rfl⟩
  · obtain ⟨a, o1, o2, n, ps, d, p, q, rfl, _⟩ := h
    rfl
  · obtain ⟨a, o1, o2, n, ps, d, p, q, rfl, pl, T, h1, h2, okp, okq, k⟩ := h
    refine ⟨_, pss_one (ps_ret (pe_callB (cr_minT rfl (hu10 hr)) (by rfl) B.min_ boot_min (pa_cons (pe_lc2 (own := [("near", 3), ("begin", 4), ("far", 5), ("end", 6)]) (vs1 := [5, 6]) (tt := tYes) (tt1 := tYes) rfl scShort.nd (pi_list (pe_can CE (hr.mono (by decide)) (by rfl) (pa_cons (pv 0) (pa_cons (pv 1) pa_nil)))) (blkOk_by (N := nShort) (sc := defScope sShort) (by decide +kernel)) (by decide) (fun _ _ _ _ _ => (pg_tupK (K := K) (n := 2) rfl (by rfl) (pgs_cons (pg_name (i := 3) scShort.nd rfl (by first | exact Or.inl rfl | exact Or.inr rfl)) (pgs_cons (pg_name (i := 4) scShort.nd rfl (by first | exact Or.inl rfl | exact Or.inr rfl)) pgs_nil)))) (fun _ _ _ _ _ => pts_nil) (fun _ _ _ _ _ => (pi_listK (K := K) rfl (pe_can CE (hr.mono (by decide)) (by rfl) (pa_cons (pv 0) (pa_cons (pv 2) pa_nil))))) (fun _ _ _ _ _ => (pg_tupK (K := K) (n := 2) rfl (by rfl) (pgs_cons (pg_name (i := 5) scShort.nd rfl (by first | exact Or.inl rfl | exact Or.inr rfl)) (pgs_cons (pg_name (i := 6) scShort.nd rfl (by first | exact Or.inl rfl | exact Or.inr rfl)) pgs_nil)))) (fun _ _ _ _ _ => pts_nil) (fun _ _ _ _ _ => (pe_tup (pa_cons (pe_op op_add (pe_op op_add (pv 4) (pe_dget (hu_of hr) (pe_ix (ix_listK (K := K) rfl) (pe_fldK (K := K) rfl (pv 0) rfl) (pv 3) (fun _ _ => rfl)) (pv 5) (fun _ _ => rfl))) (pv 6)) (pa_cons (pv 3) (pa_cons (pv 5) pa_nil)))))) pa_nil))), ?_⟩
    refine ⟨.ref a, rfl, o1, rfl, a, o1, n, ps, d, p, [], rfl, pl, h1, okp, (show Tr [] H from fun _ m => absurd m List.not_mem_nil), fun H1 l1 us k1 _ el1 du1 => ?_⟩
    refine ⟨l1, rfl, ⟨_, SqL.of el1⟩, fun D nD => ?_⟩
    have nl1 : l1 ≠ D := ne_of_none el1 nD
    have duD := du1.more nD
    have ul : us.length = (exitsL ps p).length := by rw [du1.len, List.length_map]
    have few1 := exits_few ps p
    have few2 := exits_few ps q
    refine ⟨fun i m G => m = us.length - i ∧ i ≤ us.length ∧ Keep [] H1 G ∧ ∃ acc : List V, G D = some (.lst acc) ∧ acc.length ≤ 2 * i ∧ Dts [D] G acc ((((exitsL ps p).take i).flatMap fun e => (exitsL ps q).map (trip d e)).map tupI), ⟨_, rfl, Nat.zero_le _, Keep.new nD, [], upd_same, Nat.zero_le _, .nil⟩, fun i m G z => ?_⟩
    obtain ⟨rfl, hi, kG, acc, eG, lG, dG⟩ := z
    have elG := kG l1 _ el1 List.not_mem_nil
    by_cases c : i < us.length
    · refine .inr ⟨⟨_, us[i], SqL.of elG, List.getElem?_eq_getElem c⟩, fun G' => Keep [] H1 G' ∧ ∃ acc : List V, G' D = some (.lst acc) ∧ acc.length ≤ 2 * (i + 1) ∧ Dts [D] G' acc ((((exitsL ps p).take (i + 1)).flatMap fun e => (exitsL ps q).map (trip d e)).map tupI), fun G' z => ⟨us.length - (i + 1), by omega, rfl, by omega, z⟩, fun x G' y => ?_⟩
      obtain ⟨rfl, hy⟩ := y
      have gx := hy us (SqL.of elG)
      have dG1 : Dts [D] G' us ((exitsL ps p).map tupI) := duD.keep kG.of
      obtain ⟨dd, gd, dx⟩ := dG1.getv i gx
      rw [List.getElem?_map] at gd
      obtain ⟨e, ge, rfl⟩ := Option.map_eq_some_iff.mp gd
      obtain ⟨r, b, rfl, r0, r1⟩ := exits_ok T okp e (List.mem_of_getElem? ge)
      obtain ⟨Te, rfl, _, eTe⟩ := tupI_at dx
      refine ⟨Te, [.int r, .int b], rfl, SqT.of eTe, rfl, _, _, rfl, _, [], rfl, rfl, rfl, ?_⟩
      have trD : Tr [D] G' := fun z m => by rw [List.mem_singleton.mp m]; exact ⟨_, eG⟩
      have plG := pl.keep (k1.trans kG)
      refine ⟨.ref a, rfl, o2, rfl, a, o2, n, ps, d, q, [D], rfl, plG, h2.keep (k1.trans kG), okq, trD, fun H4 l2 us2 k4 nl2 el2 du2 => ?_⟩
      have nl2D : l2 ≠ D := fun z => nl2 (by rw [z]; exact List.mem_cons_self)
      have ul2 : us2.length = (exitsL ps q).length := by rw [du2.len, List.length_map]
      refine ⟨l2, rfl, ⟨_, SqL.of el2⟩, ?_⟩
      refine ⟨fun j m J => m = us2.length - j ∧ j ≤ us2.length ∧ Keep [] H1 J ∧ Keep [D] H4 J ∧ ∃ acc : List V, J D = some (.lst acc) ∧ acc.length ≤ 2 * i + j ∧ Dts [D] J acc (((((exitsL ps p).take i).flatMap fun e => (exitsL ps q).map (trip d e)) ++ ((exitsL ps q).take j).map (trip d [r, b])).map tupI), ⟨_, rfl, Nat.zero_le _, kG.trans k4, Keep.refl _ _, acc, k4 D _ eG List.not_mem_nil, by omega, by rw [List.take_zero, List.map_nil, List.append_nil]; exact dG.keep k4.of⟩, fun j m J z => ?_⟩
      obtain ⟨rfl, hj, kJ, kJ4, acc, eJ, lJ, dJ⟩ := z
      have el2J := kJ4 l2 _ el2 nl2
      by_cases c2 : j < us2.length
      · refine .inr ⟨⟨_, us2[j], SqL.of el2J, List.getElem?_eq_getElem c2⟩, fun J' => Keep [] H1 J' ∧ Keep [D] H4 J' ∧ ∃ acc : List V, J' D = some (.lst acc) ∧ acc.length ≤ 2 * i + (j + 1) ∧ Dts [D] J' acc (((((exitsL ps p).take i).flatMap fun e => (exitsL ps q).map (trip d e)) ++ ((exitsL ps q).take (j + 1)).map (trip d [r, b])).map tupI), fun J' z => ⟨us2.length - (j + 1), by omega, rfl, by omega, z⟩, fun x J' y => ?_⟩
        obtain ⟨rfl, hy⟩ := y
        have gx2 := hy us2 (SqL.of el2J)
        obtain ⟨dd, gd2, dx2⟩ := (du2.keep kJ4).getv j gx2
        rw [List.getElem?_map] at gd2
        obtain ⟨e2, ge2, rfl⟩ := Option.map_eq_some_iff.mp gd2
        obtain ⟨s2, b2, rfl, s0, s1⟩ := exits_ok T okq e2 (List.mem_of_getElem? ge2)
        obtain ⟨Tf, rfl, _, eTf⟩ := tupI_at dx2
        obtain ⟨dxx, hb, pp, dl, gl, tl, xp, ds, gs, ws, a1, a2, a3, a4, a5, a6, a7, a8, a9, b1, b2', b3, b4, b5, b6, b7, _⟩ := pl.keep (k1.trans kJ)
        obtain ⟨gz, ggz⟩ : ∃ gz, gs[r.toNat]? = some gz := ⟨_, List.getElem?_eq_getElem (by omega)⟩
        obtain ⟨_, kvs, ekv, hkv⟩ := b7 r.toNat gz ggz
        have hval : valV kvs (Sum.inl s2) = some (.int (d r s2)) := by
          have z := hkv s2 s0 s1
          rw [show ((r.toNat : Nat) : Int) = r by omega] at z; exact z
        refine ⟨Tf, [.int s2, .int b2], rfl, SqT.of eTf, rfl, _, _, rfl, _, [], rfl, rfl, rfl, ?_⟩
        refine ⟨.int b, rfl, .ref a, rfl, a, C, dxx, _, .ref gl, rfl, a2, X.cl, X.nG, pf_gaps .., .int r, rfl, gl, _, r, .ref gz, rfl, rfl, SqL.of b5, atI_of r0 (by rw [List.getElem?_map, ggz]; rfl), .int s2, rfl, gz, .int (d r s2), rfl, by rw [← hval]; exact DGet.k (k := Sum.inl s2) ekv, b, d r s2, rfl, rfl, .int b2, rfl, b + d r s2, b2, rfl, rfl, .int r, rfl, .int s2, rfl, show 3 ≤ sizeLine by decide, fun t nt => ?_⟩
        have ntD : t ≠ D := (ne_of_none eJ nt).symm
        refine ⟨acc, by rw [upd_ne ntD.symm]; exact eJ, Nat.lt_of_lt_of_le (by omega : acc.length < 1000) (small1000 (by omega)), ?_⟩
        have kt : Keep [] J' (upd J' t (.tup [.int (b + d r s2 + b2), .int r, .int s2])) := Keep.new nt
        refine ⟨(kJ.trans kt).upd nD, (kJ4.trans kt.of).trans (Keep.put List.mem_cons_self), acc ++ [.ref t], upd_same, by rw [List.length_append, List.length_singleton]; omega, ?_⟩
        have tk : ((exitsL ps q).take (j + 1)).map (trip d [r, b]) = ((exitsL ps q).take j).map (trip d [r, b]) ++ [[b + d r s2 + b2, r, s2]] := by rw [List.take_add_one, ge2, List.map_append]; rfl
        rw [tk, ← List.append_assoc, List.map_append]
        exact ((dJ.keep kt.of).keep (Keep.put List.mem_cons_self)).app (.cons (.tup (fun m => ntD (List.mem_singleton.mp m)) (by rw [upd_ne ntD]; exact upd_same) (Dts.ints [b + d r s2 + b2, r, s2])) .nil)
      · refine .inl ⟨⟨_, SqL.of el2J, by omega⟩, kJ, acc, eJ, by omega, ?_⟩
        have ej : j = (exitsL ps q).length := by omega
        have tk : ((exitsL ps p).take (i + 1)).flatMap (fun e => (exitsL ps q).map (trip d e)) = ((exitsL ps p).take i).flatMap (fun e => (exitsL ps q).map (trip d e)) ++ (exitsL ps q).map (trip d [r, b]) := by rw [List.take_add_one, ge, List.flatMap_append]; simp
        rw [tk]
        rw [ej, List.take_length] at dJ
        exact dJ
    · have ei : i = (exitsL ps p).length := by omega
      rw [ei, List.take_length] at dG
      refine .inl ⟨⟨_, SqL.of elG, by omega⟩, ?_⟩
      have dG' : Dts [D] G acc ((trips ps d p q).map tupI) := dG
      obtain ⟨ns, nss, et⟩ : ∃ ns nss, trips ps d p q = ns :: nss := by
        obtain ⟨e, es, h1⟩ := List.exists_cons_of_ne_nil (exits_ne okp)
        obtain ⟨f, fs, h2⟩ := List.exists_cons_of_ne_nil (exits_ne okq)
        refine ⟨trip d e f, fs.map (trip d e) ++ es.flatMap (fun e => (exitsL ps q).map (trip d e)), ?_⟩
        unfold trips
        rw [h1, List.flatMap_cons, h2]; rfl
      rw [et] at dG'
      refine ⟨D, acc, ns, nss, rfl, SqL.of eG, Dts.dp _ _ dG' (lay_tups _), fun t v gv gm => ?_⟩
      have gd : ((ns :: nss).map tupI)[t]? = some (tupI (minL ns nss)) := by rw [List.getElem?_map, gm]; rfl
      obtain ⟨v', gv', dv⟩ := dG'.get t gd
      rw [gv] at gv'; cases gv'
      refine k G v (minL ns nss) (k1.trans kG) dv.nil (by rw [et]; exact minL_mem ns nss) ?_
      rw [et]
      refine minL_head nss ns (fun y hy => ?_)
      rw [← et] at hy
      obtain ⟨e, _, h⟩ := List.mem_flatMap.mp hy
      obtain ⟨f', _, rfl⟩ := List.mem_map.mp h
      intro z; cases z
end
end Rw

namespace Rw
open PySem PySem.Spec PyProof.Rows L2
theorem trips_min {n : Int} {ps : List Pi} {d : Int → Int → Int} (T : Tm n ps d) {p q : Pl} (hp : okP n ps p) (hq : okP n ps q) (ne : onePipe p q = false) {ns : List Int} (m : ns ∈ trips ps d p q) (h : ∀ x ∈ trips ps d p q, ns.headD 0 ≤ x.headD 0) : ns.headD 0 = Dp ps d p q := by
  rcases ok_cases hp with ⟨r, rfl, r0, r1⟩ | ⟨i, b, rfl, h0, h1, b0, b1⟩ <;> rcases ok_cases hq with ⟨t, rfl, t0, t1⟩ | ⟨j, a, rfl, k0, k1, a0, a1⟩
  · have m' : ns ∈ [[0 + d r t + 0, r, t]] := m
    rw [List.mem_singleton.mp m']
    show 0 + d r t + 0 = d r t
    omega
  · have e : trips ps d [r] [j, a] = [[0 + d r (pr ps j).x + a, r, (pr ps j).x], [0 + d r (pr ps j).y + ((pr ps j).l - a), r, (pr ps j).y]] := rfl
    rw [e] at m h
    have g1 := h _ List.mem_cons_self
    have g2 := h _ (List.mem_cons_of_mem _ List.mem_cons_self)
    simp only [List.headD_cons] at g1 g2
    show _ = dr ps d r j a
    unfold dr
    rcases List.mem_cons.mp m with rfl | m
    · simp only [List.headD_cons] at g1 g2 ⊢; omega
    · rw [List.mem_singleton.mp m] at g1 g2 ⊢; simp only [List.headD_cons] at g1 g2 ⊢; omega
  · have e : trips ps d [i, b] [t] = [[b + d (pr ps i).x t + 0, (pr ps i).x, t], [(pr ps i).l - b + d (pr ps i).y t + 0, (pr ps i).y, t]] := rfl
    rw [e] at m h
    have g1 := h _ List.mem_cons_self
    have g2 := h _ (List.mem_cons_of_mem _ List.mem_cons_self)
    simp only [List.headD_cons] at g1 g2
    show _ = dr ps d t i b
    unfold dr
    rw [T.sym t (pr ps i).x, T.sym t (pr ps i).y]
    rcases List.mem_cons.mp m with rfl | m
    · simp only [List.headD_cons] at g1 g2 ⊢; omega
    · rw [List.mem_singleton.mp m] at g1 g2 ⊢; simp only [List.headD_cons] at g1 g2 ⊢; omega
  · have nij : ¬ i = j := fun z => by subst z; simp [onePipe] at ne
    have e : trips ps d [i, b] [j, a] = [[b + d (pr ps i).x (pr ps j).x + a, (pr ps i).x, (pr ps j).x], [b + d (pr ps i).x (pr ps j).y + ((pr ps j).l - a), (pr ps i).x, (pr ps j).y],
      [(pr ps i).l - b + d (pr ps i).y (pr ps j).x + a, (pr ps i).y, (pr ps j).x], [(pr ps i).l - b + d (pr ps i).y (pr ps j).y + ((pr ps j).l - a), (pr ps i).y, (pr ps j).y]] := rfl
    rw [e] at m h
    have g1 := h _ List.mem_cons_self
    have g2 := h _ (List.mem_cons_of_mem _ List.mem_cons_self)
    have g3 := h _ (List.mem_cons_of_mem _ (List.mem_cons_of_mem _ List.mem_cons_self))
    have g4 := h _ (List.mem_cons_of_mem _ (List.mem_cons_of_mem _ (List.mem_cons_of_mem _ List.mem_cons_self)))
    simp only [List.headD_cons] at g1 g2 g3 g4
    show _ = (if i = j then ab b a else min (b + dr ps d (pr ps i).x j a) ((pr ps i).l - b + dr ps d (pr ps i).y j a))
    rw [if_neg nij]
    unfold dr
    rcases List.mem_cons.mp m with rfl | m
    · simp only [List.headD_cons] at g1 g2 g3 g4 ⊢; omega
    · rcases List.mem_cons.mp m with rfl | m
      · simp only [List.headD_cons] at g1 g2 g3 g4 ⊢; omega
      · rcases List.mem_cons.mp m with rfl | m
        · simp only [List.headD_cons] at g1 g2 g3 g4 ⊢; omega
        · rw [List.mem_singleton.mp m] at g1 g2 g3 g4 ⊢; simp only [List.headD_cons] at g1 g2 g3 g4 ⊢; omega
theorem one_pipe {n : Int} {ps : List Pi} {d : Int → Int → Int} {p q : Pl} (hp : okP n ps p) (hq : okP n ps q) (h : onePipe p q = true) : ∃ i a b, p = [i, a] ∧ q = [i, b] ∧ Dp ps d p q = ab a b := by
  rcases ok_cases hp with ⟨r, rfl, _⟩ | ⟨i, a, rfl, _⟩ <;> rcases ok_cases hq with ⟨t, rfl, _⟩ | ⟨j, b, rfl, _⟩
  · cases h
  · cases h
  · cases h
  · have e : i = j := by simpa [onePipe] using h
    subst e
    exact ⟨i, a, b, rfl, rfl, if_pos rfl⟩
theorem abs_ab (a b : Int) : (if a - b < 0 then -(a - b) else a - b) = ab a b := by unfold ab; split <;> split <;> omega
theorem ok_ne {n : Int} {ps : List Pi} {p : Pl} (h : okP n ps p) : p ≠ [] := by
  rcases ok_cases h with ⟨r, rfl, _⟩ | ⟨i, a, rfl, _⟩ <;> (intro z; cases z)
section
variable {P : Program} {w : World} {K : PySem.W.Frag} {mg : Str → Option Value} {base : Heap}
abbrev sGap : Stmt := topS 19
abbrev nGap : List Str := ["plan", "one", "other"]
theorem scGap : FnScope nGap ["plan", "one", "other"] (defScope sGap) := ⟨rfl, rfl, rfl, by decide +kernel, rfl, by decide +kernel, by decide +kernel⟩
def spGap (C : Addr) : Sp := fun vs H Q _ => ∃ (a : Addr) (o1 o2 : V) (n : Int) (ps : List Pi) (d : Int → Int → Int) (p q : Pl), vs = [.ref a, o1, o2] ∧ PlanAt C [] H a n ps d ∧ Tm n ps d ∧ Dt [] H o1 (tupI p) ∧ Dt [] H o2 (tupI q) ∧ okP n ps p ∧ okP n ps q ∧
  ∀ H' : Hp, Keep [] H H' → Q (.int (Dp ps d p q)) H'
theorem ok_gap {C : Addr} (h : Has K mg "gap_of" sGap) (B : Blt mg) (CO : Can P w K mg base "are_in_one_pipe" ["one", "other"] 1 spOnePipe) (CS : Can P w K mg base "shortest" ["plan", "one", "other"] 2 (spShort C)) : Can P w K mg base "gap_of" ["plan", "one", "other"] 3 (spGap C) := by
  obtain ⟨f, fd, F, g⟩ := h
  refine ⟨f, fd, F.ok (k := 2) scGap (fun vs H Q E h => ?_) (fun cdv A outer s H vs Q E hr h => ?_), g, F.kp, F.binds fun _ _ _ _ _ _ us hl => match us, hl with | [_, _, _], _ => rfl⟩
  · obtain ⟨a, o1, o2, n, ps, d, p, q, rfl, _⟩ := h
    rfl
  · obtain ⟨a, o1, o2, n, ps, d, p, q, rfl, pl, T, h1, h2, okp, okq, k⟩ := h
    refine ⟨_, pss_cons (ps_if (pt_val (pe_can CO (hr.mono (by decide)) (by rfl) (pa_cons (pv 1) (pa_cons (pv 2) pa_nil)))) (pss_one (ps_ret (pe_callB call_abs (by rfl) B.abs_ boot_abs (pa_cons (pe_op op_sub (pe_ix ix_tup (pv 1) pe_int (fun _ _ => rfl)) (pe_ix ix_tup (pv 2) pe_int (fun _ _ => rfl))) pa_nil)))) pss_nil)
      (pss_one (ps_ret (pe_ix ix_tup (pe_can CS (hr.mono (by decide)) (by rfl) (pa_cons (pv 0) (pa_cons (pv 1) (pa_cons (pv 2) pa_nil)))) pe_int (fun _ _ => rfl)))), ?_⟩
    refine ⟨o1, rfl, o2, rfl, o1, o2, p, q, rfl, h1, h2, ok_ne okp, ok_ne okq, _, rfl, ?_⟩
    cases c : onePipe p q with
    | true =>
      obtain ⟨i, x, y, rfl, rfl, e⟩ := one_pipe (d := d) okp okq c
      obtain ⟨a1, rfl, _, e1⟩ := tupI_at h1
      obtain ⟨a2, rfl, _, e2⟩ := tupI_at h2
      refine iteT ⟨.ref a1, rfl, a1, _, 1, .int x, rfl, rfl, SqT.of e1, atI_nat (j := 1) rfl, .ref a2, rfl, a2, _, 1, .int y, rfl, rfl, SqT.of e2, atI_nat (j := 1) rfl, x, y, rfl, rfl, x - y, rfl, ?_⟩
      rw [abs_ab, ← e]
      exact k H (Keep.refl _ _)
    | false =>
      refine iteF ⟨.ref a, rfl, o1, rfl, o2, rfl, a, o1, o2, n, ps, d, p, q, rfl, pl, T, h1, h2, okp, okq, fun H' v ns kH dv mn hm => ?_⟩
      obtain ⟨t, rfl, _, et⟩ := tupI_at dv
      have e := trips_min T okp okq c mn hm
      obtain ⟨x, xs, rfl⟩ : ∃ x xs, ns = x :: xs := by
        obtain ⟨e, _, h⟩ := List.mem_flatMap.mp mn
        obtain ⟨f', _, rfl⟩ := List.mem_map.mp h
        exact ⟨_, _, rfl⟩
      refine ⟨t, _, 0, .int x, rfl, rfl, SqT.of et, atI_nat (j := 0) rfl, ?_⟩
      have e' : x = Dp ps d p q := e
      rw [e']
      exact k H' kH
/-! a plan is made -/
theorem plan_made {C : Addr} {H : Hp} {h : V} {n : Int} {ps : List Pi} {d : Int → Int → Int} {av : List Addr} {R : VK} {x dx : Addr} (hh : Dt av H h (houseD n (ps.map Pi.dat))) (hk : HouseOk n ps) (T : Tm n ps d) (tr : Tr av H) (nx : H x = none) (ndx : H dx = none) (ne : dx ≠ x)
    (k : ∀ H' : Hp, Keep [] H H' → Tr av H' → PlanAt C av H' x n ps d → R .non H') : spInit C (.ref x :: ([h] ++ [])) (upd (upd H dx (.own x)) x (.ins C dx [])) R E0 := by
  have nx1 : (upd H dx (.own x)) x = none := by rw [upd_ne ne.symm]; exact nx
  have k0 : Keep [] H (upd (upd H dx (.own x)) x (.ins C dx [])) := (Keep.new ndx).trans (Keep.new nx1)
  refine ⟨x, dx, h, n, ps, d, av, rfl, upd_same, tr.not nx, (hh.more nx).keep k0.of, hk, T, (tr.upd).upd, fun H' kH tr' pl => k H' ?_ tr' pl⟩
  exact Keep.drop nx (fun b o e nb => kH b o (k0 b o e List.not_mem_nil) nb)
end
end Rw

namespace Rw
open PySem PySem.Spec PyProof.Rows L2
section
variable {P : Program} {w : World} {K : PySem.W.Frag} {mg : Str → Option Value} {base : Heap}
abbrev sPAt : Stmt := topS 15
abbrev nPAt : List Str := ["plan", "pipe", "at", "one", "other", "length"]
theorem scPAt : FnScope nPAt ["plan", "pipe", "at"] (defScope sPAt) := ⟨rfl, rfl, rfl, by decide +kernel, rfl, by decide +kernel, by decide +kernel⟩
def spPAt (C : Addr) : Sp := fun vs H Q _ => ∃ (a : Addr) (n i t : Int) (ps : List Pi) (d : Int → Int → Int) (av : List Addr), vs = [.ref a, .int i, .int t] ∧ PlanAt C [] H a n ps d ∧ 0 ≤ i ∧ i < ps.length ∧ Tr av H ∧
  ∀ (H' : Hp) (v : V), Keep [] H H' → Tr av H' → Dt av H' v (tupI (nm ps i t)) → Q v H'
theorem ok_pAt {C : Addr} (h : Has K mg "place_at" sPAt) (X : PlanTxt K C) : Can P w K mg base "place_at" ["plan", "pipe", "at"] 1 (spPAt C) := by
  obtain ⟨f, fd, F, g⟩ := h
  refine ⟨f, fd, F.ok (k := 0) scPAt (fun vs H Q E h => ?_) (fun cdv A outer s H vs Q E hr h => ?_), g, F.kp, F.binds fun _ _ _ _ _ _ us hl => match us, hl with | [_, _, _], _ => rfl⟩
  · obtain ⟨a, n, i, t, ps, d, av, rfl, _⟩ := h
    rfl
  · obtain ⟨a, n, i, t, ps, d, av, rfl, pl, h0, h1, tr, k⟩ := h
    refine ⟨_, pss_cons (ps_asg (pe_slice sl_tup (pe_ix ix_tup (pe_fld (pv 0) rfl) (pv 1) (fun _ _ => rfl)) po_none (po_some pe_int)) (pg_tup (by rfl) (pgs_cons (pg_name (i := 3) scPAt.nd rfl (by first | exact Or.inl rfl | exact Or.inr rfl)) (pgs_cons (pg_name (i := 4) scPAt.nd rfl (by first | exact Or.inl rfl | exact Or.inr rfl)) (pgs_cons (pg_name (i := 5) scPAt.nd rfl (by first | exact Or.inl rfl | exact Or.inr rfl)) pgs_nil)))))
      (pss_cons (ps_if (pt_cmpR op_eq (pv 2) pe_int (nomark _)) (pss_one (ps_ret (pe_tup (pa_cons (pv 3) pa_nil)))) pss_nil)
      (pss_cons (ps_if (pt_cmpR op_eq (pv 2) (pv 5) (nomark _)) (pss_one (ps_ret (pe_tup (pa_cons (pv 4) pa_nil)))) pss_nil)
      (pss_one (ps_ret (pe_tup (pa_cons (pv 1) (pa_cons (pv 2) pa_nil))))))), ?_⟩
    obtain ⟨dx, hb, pp, dl, gl, tl, xp, ds, gs, ws, a1', a2, a3, a4, a5, a6, a7, _⟩ := pl
    obtain ⟨p, pa, T1, T2, mp, gp, ga, epa⟩ := pi_at a7 h0 h1
    have epr : p = pr ps i := by
      have z := (pr_mem h0 h1).2
      rw [z] at gp; exact (Option.some.inj gp).symm
    subst epr
    refine ⟨.ref a, rfl, a, C, dx, _, .ref pp, rfl, a2, X.cl, X.nP, pf_pipes .., .int i, rfl, pp, xp, i, .ref pa, rfl, rfl, SqT.of a6, ga, 3, rfl, pa, [.int (pr ps i).x, .int (pr ps i).y, .int (pr ps i).l, .ref T1, .ref T2], rfl, SqT.of epa, show ¬ (HT.sIx 5 0 none = 0 ∧ HT.sIx 5 5 (some 3) = 5) by decide +kernel, fun T3 nT3 => ?_⟩
    rw [show cutV [V.int (pr ps i).x, .int (pr ps i).y, .int (pr ps i).l, .ref T1, .ref T2] none (some 3) = [.int (pr ps i).x, .int (pr ps i).y, .int (pr ps i).l] from cut_to _ 3]
    refine ⟨T3, [.int (pr ps i).x, .int (pr ps i).y, .int (pr ps i).l], rfl, SqT.of upd_same, rfl, _, _, rfl, _, _, rfl, _, [], rfl, rfl, ?_⟩
    have k1 : Keep [] H (upd H T3 (.tup [.int (pr ps i).x, .int (pr ps i).y, .int (pr ps i).l])) := Keep.new nT3
    have tr1 : Tr av (upd H T3 (.tup [.int (pr ps i).x, .int (pr ps i).y, .int (pr ps i).l])) := tr.upd
    generalize upd H T3 (.tup [.int (pr ps i).x, .int (pr ps i).y, .int (pr ps i).l]) = H1 at k1 tr1 ⊢
    refine ⟨.int t, rfl, rfl, _, rfl, ite2 (fun e => ?_) (fun e => ?_)⟩
    · have e0 : t = 0 := V.int.inj (of_decide_eq_true e)
      refine ⟨.int (pr ps i).x, rfl, show 1 ≤ sizeLine by decide, fun z nz => ?_⟩
      refine k _ _ (k1.trans (Keep.new nz)) tr1.upd ?_
      rw [e0, nm_0]
      exact .tup (tr1.not nz) upd_same (.cons (.int _) .nil)
    · have e0 : t ≠ 0 := fun z => e (decide_eq_true (by rw [z]))
      refine ⟨.int t, rfl, .int (pr ps i).l, rfl, rfl, _, rfl, ite2 (fun e1 => ?_) (fun e1 => ?_)⟩
      · have e2 : t = (pr ps i).l := V.int.inj (of_decide_eq_true e1)
        have en : nm ps i t = [(pr ps i).y] := by
          have l0 : (pr ps i).l ≠ 0 := by rw [← e2]; exact e0
          rw [e2, nm_l l0]
        refine ⟨.int (pr ps i).y, rfl, show 1 ≤ sizeLine by decide, fun z nz => ?_⟩
        refine k _ _ (k1.trans (Keep.new nz)) tr1.upd ?_
        rw [en]
        exact .tup (tr1.not nz) upd_same (.cons (.int _) .nil)
      · have e2 : t ≠ (pr ps i).l := fun z => e1 (decide_eq_true (by rw [z]))
        refine ⟨.int i, rfl, .int t, rfl, show 2 ≤ sizeLine by decide, fun z nz => ?_⟩
        refine k _ _ (k1.trans (Keep.new nz)) tr1.upd ?_
        rw [nm_mid e0 e2]
        exact .tup (tr1.not nz) upd_same (.cons (.int _) (.cons (.int _) .nil))
end
end Rw

namespace Rw
open PySem PySem.Spec PyProof.Rows L2
section
variable {P : Program} {w : World} {K : PySem.W.Frag} {mg : Str → Option Value} {base : Heap}
abbrev sRAt : Stmt := topS 20
abbrev nRAt : List Str := ["plan", "pipe", "room"]
theorem scRAt : FnScope nRAt ["plan", "pipe", "room"] (defScope sRAt) := ⟨rfl, rfl, rfl, by decide +kernel, rfl, by decide +kernel, by decide +kernel⟩
def roomAt (ps : List Pi) (i r : Int) : Int := if (pr ps i).x = r then 0 else (pr ps i).l
def spRAt (C : Addr) : Sp := fun vs H Q _ => ∃ (a : Addr) (n i r : Int) (ps : List Pi) (d : Int → Int → Int), vs = [.ref a, .int i, .int r] ∧ PlanAt C [] H a n ps d ∧ 0 ≤ i ∧ i < ps.length ∧ Q (.int (roomAt ps i r)) H
theorem ok_rAt {C : Addr} (h : Has K mg "room_at" sRAt) (X : PlanTxt K C) : Can P w K mg base "room_at" ["plan", "pipe", "room"] 1 (spRAt C) := by
  obtain ⟨f, fd, F, g⟩ := h
  refine ⟨f, fd, F.ok (k := 0) scRAt (fun vs H Q E h => ?_) (fun cdv A outer s H vs Q E hr h => ?_), g, F.kp, F.binds fun _ _ _ _ _ _ us hl => match us, hl with | [_, _, _], _ => rfl⟩
  · obtain ⟨a, n, i, r, ps, d, rfl, _⟩ := h
    rfl
  · obtain ⟨a, n, i, r, ps, d, rfl, pl, h0, h1, k⟩ := h
    refine ⟨_, pss_one (ps_ret (pe_ifExp (pt_cmpR op_eq (pe_ix ix_tup (pe_ix ix_tup (pe_fld (pv 0) rfl) (pv 1) (fun _ _ => rfl)) pe_int (fun _ _ => rfl)) (pv 2) (nomark _)) pe_int (pe_ix ix_tup (pe_ix ix_tup (pe_fld (pv 0) rfl) (pv 1) (fun _ _ => rfl)) pe_int (fun _ _ => rfl)))), ?_⟩
    obtain ⟨dx, hb, pp, dl, gl, tl, xp, ds, gs, ws, a1', a2, a3, a4, a5, a6, a7, _⟩ := pl
    obtain ⟨p, pa, T1, T2, mp, gp, ga, epa⟩ := pi_at a7 h0 h1
    have epr : p = pr ps i := by
      have z := (pr_mem h0 h1).2
      rw [z] at gp; exact (Option.some.inj gp).symm
    subst epr
    refine ⟨.ref a, rfl, a, C, dx, _, .ref pp, rfl, a2, X.cl, X.nP, pf_pipes .., .int i, rfl, pp, xp, i, .ref pa, rfl, rfl, SqT.of a6, ga, pa, _, 0, .int (pr ps i).x, rfl, rfl, SqT.of epa, atI_nat (j := 0) rfl, .int r, rfl, rfl, _, rfl, ite2 (fun e => ?_) (fun e => ?_)⟩
    · have e0 : (pr ps i).x = r := V.int.inj (of_decide_eq_true e)
      unfold roomAt at k
      rw [if_pos e0] at k
      exact k
    · have e0 : ¬ (pr ps i).x = r := fun z => e (decide_eq_true (by rw [z]))
      unfold roomAt at k
      rw [if_neg e0] at k
      exact ⟨.ref a, rfl, a, C, dx, _, .ref pp, rfl, a2, X.cl, X.nP, pf_pipes .., .int i, rfl, pp, xp, i, .ref pa, rfl, rfl, SqT.of a6, ga, pa, _, 2, .int (pr ps i).l, rfl, rfl, SqT.of epa, atI_nat (j := 2) rfl, k⟩
abbrev sLen : Stmt := topS 22
abbrev nLen : List Str := ["piece"]
theorem scLen : FnScope nLen ["piece"] (defScope sLen) := ⟨rfl, rfl, rfl, by decide +kernel, rfl, by decide +kernel, by decide +kernel⟩
def spLen : Sp := fun vs H Q _ => ∃ (t : Addr) (i b e : Int), vs = [.ref t] ∧ H t = some (.tup [.int i, .int b, .int e]) ∧ Q (.int (plen [i, b, e])) H
theorem ok_len (h : Has K mg "length_of" sLen) (B : Blt mg) : Can P w K mg base "length_of" ["piece"] 1 spLen := by
  obtain ⟨f, fd, F, g⟩ := h
  refine ⟨f, fd, F.ok (k := 0) scLen (fun vs H Q E h => ?_) (fun cdv A outer s H vs Q E hr h => ?_), g, F.kp, F.binds fun _ _ _ _ _ _ us hl => match us, hl with | [_], _ => rfl⟩
  · obtain ⟨t, i, b, e, rfl, _⟩ := h
    rfl
  · obtain ⟨t, i, b, e, rfl, et, k⟩ := h
    refine ⟨_, pss_one (ps_ret (pe_callB call_abs (by rfl) B.abs_ boot_abs (pa_cons (pe_op op_sub (pe_ix ix_tup (pv 0) pe_int (fun _ _ => rfl)) (pe_ix ix_tup (pv 0) pe_int (fun _ _ => rfl))) pa_nil))), ?_⟩
    refine ⟨.ref t, rfl, t, _, 2, .int e, rfl, rfl, SqT.of et, atI_nat (j := 2) rfl, .ref t, rfl, t, _, 1, .int b, rfl, rfl, SqT.of et, atI_nat (j := 1) rfl, e, b, rfl, rfl, e - b, rfl, ?_⟩
    have z : (if e - b < 0 then -(e - b) else e - b) = plen [i, b, e] := by
      show _ = ab b e
      unfold ab; split <;> split <;> omega
    rw [z]; exact k
abbrev sAl : Stmt := topS 23
abbrev nAl : List Str := ["piece", "steps", "pipe", "begin", "stop"]
theorem scAl : FnScope nAl ["piece", "steps"] (defScope sAl) := ⟨rfl, rfl, rfl, by decide +kernel, rfl, by decide +kernel, by decide +kernel⟩
def spAl : Sp := fun vs H Q _ => ∃ (t : Addr) (i b e k : Int), vs = [.ref t, .int k] ∧ H t = some (.tup [.int i, .int b, .int e]) ∧ Q (.int (pat [i, b, e] k)) H
theorem ok_al (h : Has K mg "at_along" sAl) : Can P w K mg base "at_along" ["piece", "steps"] 1 spAl := by
  obtain ⟨f, fd, F, g⟩ := h
  refine ⟨f, fd, F.ok (k := 0) scAl (fun vs H Q E h => ?_) (fun cdv A outer s H vs Q E hr h => ?_), g, F.kp, F.binds fun _ _ _ _ _ _ us hl => match us, hl with | [_, _], _ => rfl⟩
  · obtain ⟨t, i, b, e, k, rfl, _⟩ := h
    rfl
  · obtain ⟨t, i, b, e, k, rfl, et, q⟩ := h
    refine ⟨_, pss_cons (ps_asg (pv 0) (pg_tup (by rfl) (pgs_cons (pg_name (i := 2) scAl.nd rfl (by first | exact Or.inl rfl | exact Or.inr rfl)) (pgs_cons (pg_name (i := 3) scAl.nd rfl (by first | exact Or.inl rfl | exact Or.inr rfl)) (pgs_cons (pg_name (i := 4) scAl.nd rfl (by first | exact Or.inl rfl | exact Or.inr rfl)) pgs_nil)))))
      (pss_one (ps_ret (pe_ifExp (pt_cmpR op_lt (pv 3) (pv 4) (nomark _)) (pe_op op_add (pv 3) (pv 1)) (pe_op op_sub (pv 3) (pv 1))))), ?_⟩
    refine ⟨.ref t, rfl, t, _, rfl, SqT.of et, rfl, _, _, rfl, _, _, rfl, _, [], rfl, rfl, ?_⟩
    have ep : pat [i, b, e] k = if b < e then b + k else b - k := rfl
    rw [ep] at q
    refine ⟨.int b, rfl, .int e, rfl, b, e, rfl, rfl, _, rfl, ite2 (fun c => ?_) (fun c => ?_)⟩
    · rw [if_pos (of_decide_eq_true c)] at q
      exact ⟨.int b, rfl, .int k, rfl, b, k, rfl, rfl, q⟩
    · rw [if_neg (fun z => c (decide_eq_true z))] at q
      exact ⟨.int b, rfl, .int k, rfl, b, k, rfl, rfl, q⟩
abbrev sPAl : Stmt := topS 24
abbrev nPAl : List Str := ["plan", "pieces", "steps", "left", "piece"]
theorem scPAl : FnScope nPAl ["plan", "pieces", "steps"] (defScope sPAl) := ⟨rfl, rfl, rfl, by decide +kernel, rfl, by decide +kernel, by decide +kernel⟩
theorem cut_last (xs : List V) (x : V) : cutV (xs ++ [x]) none (some (-1)) = xs := by
  unfold cutV
  have e1 : HT.sIx (xs ++ [x]).length 0 none = 0 := HT.sIx_none _ _
  have e2 : HT.sIx (xs ++ [x]).length (xs ++ [x]).length (some (-1)) = xs.length := by
    rw [List.length_append, List.length_singleton]
    unfold HT.sIx
    simp
    omega
  rw [e1, e2, List.drop_zero, Nat.sub_zero, List.take_left]
def spPAl (C : Addr) : Sp := fun vs H Q _ => ∃ (a l : Addr) (n k : Int) (ps : List Pi) (d : Int → Int → Int) (us : List V) (pcs : List (List Int)) (av : List Addr), vs = [.ref a, .ref l, .int k] ∧ PlanAt C [] H a n ps d ∧ H l = some (.lst us) ∧ Dts [] H us (pcs.map tupI) ∧ pcs ≠ [] ∧ pcs.length ≤ 1000 ∧ (∀ c ∈ pcs, PcOk ps c) ∧ Tr av H ∧
  ∀ (H' : Hp) (v : V), Keep [] H H' → Tr av H' → Dt av H' v (tupI (along ps pcs k)) → Q v H'
theorem along_cons {ps : List Pi} {c : List Int} {r : List (List Int)} (h : r ≠ []) (k : Int) : along ps (c :: r) k = if k ≤ plen c then nm ps (c.getD 0 0) (pat c k) else along ps r (k - plen c) := by
  cases r with
  | nil => exact absurd rfl h
  | cons _ _ => rfl
theorem ok_pAl {C : Addr} (h : Has K mg "place_along" sPAl) (CL : Can P w K mg base "length_of" ["piece"] 1 spLen) (CT : Can P w K mg base "at_along" ["piece", "steps"] 1 spAl) (CA : Can P w K mg base "place_at" ["plan", "pipe", "at"] 1 (spPAt C)) : Can P w K mg base "place_along" ["plan", "pieces", "steps"] 2 (spPAl C) := by
  obtain ⟨f, fd, F, g⟩ := h
  refine ⟨f, fd, F.ok (k := 1) scPAl (fun vs H Q E h => ?_) (fun cdv A outer s H vs Q E hr h => ?_), g, F.kp, F.binds fun _ _ _ _ _ _ us hl => match us, hl with | [_, _, _], _ => rfl⟩
  · obtain ⟨a, l, n, k, ps, d, us, pcs, av, rfl, _⟩ := h
    rfl
  · obtain ⟨a, l, n, k, ps, d, us, pcs, av, rfl, pl, el, du, hne, hlen, hok, tr, q⟩ := h
    refine ⟨_, pss_cons (ps_set (i := 3) scPAl.nd rfl (by first | exact Or.inl rfl | exact Or.inr rfl) (pv 2))
      (pss_cons (ps_for PassesOwn.never rfl (pi_list (pe_slice sl_list (pv 1) po_none (po_some (pe_un un_neg pe_int)))) (pg_name (i := 4) scPAl.nd rfl (by first | exact Or.inl rfl | exact Or.inr rfl))
      (pss_cons (ps_if (pt_cmpR op_le (pv 3) (pe_can CL (hr.mono (by decide)) (by rfl) (pa_cons (pv 4) pa_nil)) (nomark _)) (pss_one (ps_ret (pe_can CA (hr.mono (by decide)) (by rfl) (pa_cons (pv 0) (pa_cons (pe_ix ix_tup (pv 4) pe_int (fun _ _ => rfl)) (pa_cons (pe_can CT (hr.mono (by decide)) (by rfl) (pa_cons (pv 4) (pa_cons (pv 3) pa_nil))) pa_nil)))))) pss_nil)
      (pss_one (ps_aug (i := 3) scPAl.nd rfl (by first | exact Or.inl rfl | exact Or.inr rfl) (pe_can CL (hr.mono (by decide)) (by rfl) (pa_cons (pv 4) pa_nil)) ip_sub))))
      (pss_one (ps_ret (pe_can CA (hr.mono (by decide)) (by rfl) (pa_cons (pv 0) (pa_cons (pe_ix ix_tup (pe_ix ix_list (pv 1) (pe_un un_neg pe_int) (fun _ _ => rfl)) pe_int (fun _ _ => rfl)) (pa_cons (pe_can CT (hr.mono (by decide)) (by rfl) (pa_cons (pe_ix ix_list (pv 1) (pe_un un_neg pe_int) (fun _ _ => rfl)) (pa_cons (pv 3) pa_nil))) pa_nil))))))), ?_⟩
    obtain ⟨pre, lastc, epc⟩ : ∃ pre lastc, pcs = pre ++ [lastc] := ⟨pcs.dropLast, pcs.getLast hne, (List.dropLast_concat_getLast hne).symm⟩
    have lu : us.length = pcs.length := by rw [du.len, List.length_map]
    obtain ⟨ups, ul, eus⟩ : ∃ ups ul, us = ups ++ [ul] := by
      have z : us ≠ [] := fun z => by rw [z, epc] at lu; simp at lu
      exact ⟨us.dropLast, us.getLast z, (List.dropLast_concat_getLast z).symm⟩
    subst epc eus
    have lp : ups.length = pre.length := by rw [List.length_append, List.length_append] at lu; simpa using lu
    refine ⟨.int k, rfl, ?_⟩
    refine ⟨.ref l, rfl, 1, rfl, -1, rfl, l, _, rfl, SqL.of el, fun S nS => ?_⟩
    rw [cut_last]
    have kS : Keep [] H (upd H S (.lst ups)) := Keep.new nS
    have eS : (upd H S (.lst ups)) S = some (.lst ups) := upd_same
    have trS : Tr av (upd H S (.lst ups)) := tr.upd
    generalize upd H S (.lst ups) = G0 at kS eS trS ⊢
    have piece : ∀ (G : Hp) (j : Nat) (x : V), Keep [] H G → (ups ++ [ul])[j]? = some x → ∃ (i b e : Int) (t : Addr), (pre ++ [lastc])[j]? = some [i, b, e] ∧ x = .ref t ∧ G t = some (.tup [.int i, .int b, .int e]) ∧ 0 ≤ i ∧ i < ps.length := fun G j x kG hx => by
      obtain ⟨dd, gd, dx⟩ := (du.keep kG).getv j hx
      rw [List.getElem?_map] at gd
      obtain ⟨c, gc, rfl⟩ := Option.map_eq_some_iff.mp gd
      obtain ⟨i, b, e, rfl, h0, h1, _⟩ := hok c (List.mem_of_getElem? gc)
      obtain ⟨t, rfl, _, et⟩ := tupI_at dx
      exact ⟨i, b, e, t, gc, rfl, et, h0, h1⟩
    refine ⟨S, rfl, ⟨_, SqL.of eS⟩, for_list (K := K) (a := S) (xs := ups) (fun j σ J => ∃ (left : Int) (s4 : Option V), σ = [some (.ref a), some (.ref l), some (.int k), some (.int left), s4] ∧ Keep [] G0 J ∧ Tr av J ∧ along ps (pre ++ [lastc]) k = along ps ((pre ++ [lastc]).drop j) left) ⟨k, _, rfl, Keep.refl _ _, trS, by rw [List.drop_zero]⟩ (fun j σ J _ p => ?_) (fun j x σ J hx p => ?_) (fun σ J p => ?_)⟩
    · obtain ⟨_, _, _, kJ, _⟩ := p
      exact SqL.of (kJ S _ eS List.not_mem_nil)
    · obtain ⟨left, s4, rfl, kJ, tJ, ea⟩ := p
      have jl : j < ups.length := (List.getElem?_eq_some_iff.mp hx).1
      have hx' : (ups ++ [ul])[j]? = some x := by rw [List.getElem?_append_left jl]; exact hx
      obtain ⟨i, b, e, t, gc, rfl, et, h0, h1⟩ := piece J j x (kS.trans kJ) hx'
      have dj : (pre ++ [lastc]).drop j = [i, b, e] :: (pre ++ [lastc]).drop (j + 1) := by
        obtain ⟨hj, ej⟩ := List.getElem?_eq_some_iff.mp gc
        rw [List.drop_eq_getElem_cons hj, ej]
      have rest : (pre ++ [lastc]).drop (j + 1) ≠ [] := fun z => by
        have z2 := congrArg List.length z
        rw [List.length_drop, List.length_append, List.length_singleton] at z2
        simp at z2; omega
      rw [dj, along_cons rest] at ea
      refine ⟨.int left, rfl, .ref t, rfl, t, i, b, e, rfl, et, left, plen [i, b, e], rfl, rfl, _, rfl, ite2 (fun c => ?_) (fun c => ?_)⟩
      · rw [if_pos (of_decide_eq_true c)] at ea
        refine ⟨.ref a, rfl, .ref t, rfl, t, _, 0, .int i, rfl, rfl, SqT.of et, atI_nat (j := 0) rfl, .ref t, rfl, .int left, rfl, t, i, b, e, left, rfl, et, a, n, i, pat [i, b, e] left, ps, d, av, rfl, pl.keep (kS.trans kJ), h0, h1, tJ, fun J2 v k2 t2 dv => ?_⟩
        refine q J2 v ((kS.trans kJ).trans k2) t2 ?_
        rw [ea]; exact dv
      · rw [if_neg (fun z => c (decide_eq_true z))] at ea
        refine ⟨.int left, rfl, .ref t, rfl, t, i, b, e, rfl, et, left, plen [i, b, e], rfl, rfl, ?_⟩
        exact ⟨left - plen [i, b, e], _, rfl, kJ, tJ, ea⟩
    · obtain ⟨left, s4, rfl, kJ, tJ, ea⟩ := p
      have hx' : (ups ++ [ul])[ups.length]? = some ul := by rw [List.getElem?_append_right (Nat.le_refl _), Nat.sub_self]; rfl
      obtain ⟨i, b, e, t, gc, rfl, et, h0, h1⟩ := piece J ups.length ul (kS.trans kJ) hx'
      have ec : lastc = [i, b, e] := by
        rw [lp, List.getElem?_append_right (Nat.le_refl _), Nat.sub_self] at gc
        exact Option.some.inj gc
      have dj : (pre ++ [lastc]).drop ups.length = [[i, b, e]] := by
        rw [lp, List.drop_left, ec]
      rw [dj] at ea
      have ea' : along ps (pre ++ [lastc]) k = nm ps i (pat [i, b, e] left) := ea
      have elJ := (kS.trans kJ) l _ el List.not_mem_nil
      refine ⟨.ref a, rfl, .ref l, rfl, 1, rfl, l, _, -1, .ref t, rfl, rfl, SqL.of elJ, atI_last ups _, t, _, 0, .int i, rfl, rfl, SqT.of et, atI_nat (j := 0) rfl, .ref l, rfl, 1, rfl, l, _, -1, .ref t, rfl, rfl, SqL.of elJ, atI_last ups _, .int left, rfl, t, i, b, e, left, rfl, et, a, n, i, pat [i, b, e] left, ps, d, av, rfl, pl.keep (kS.trans kJ), h0, h1, tJ, fun J2 v k2 t2 dv => ?_⟩
      refine q J2 v ((kS.trans kJ).trans k2) t2 ?_
      rw [ea']; exact dv
end
end Rw

namespace Rw
open PySem PySem.Spec PyProof.Rows L2
section
variable {n : Int} {ps : List Pi} {d : Int → Int → Int} (T : Tm n ps d)
include T
theorem roomAt_x (i : Int) : roomAt ps i (pr ps i).x = 0 := if_pos rfl
theorem roomAt_y {i : Int} (h0 : 0 ≤ i) (h1 : i < ps.length) : roomAt ps i (pr ps i).y = (pr ps i).l := if_neg (Tm.own T h0 h1).2.2
theorem room_pc {i a r b : Int} (h0 : 0 ≤ i) (h1 : i < ps.length) (a0 : 1 ≤ a) (a1 : a ≤ (pr ps i).l - 1) (m : [r, b] ∈ exitsL ps [i, a]) :
    0 ≤ roomAt ps i r ∧ roomAt ps i r ≤ (pr ps i).l ∧ nm ps i (roomAt ps i r) = [r] ∧ ab a (roomAt ps i r) = b ∧ ab (roomAt ps i r) a = b ∧ nm ps i a = [i, a] := by
  have m' : [r, b] ∈ [[(pr ps i).x, a], [(pr ps i).y, (pr ps i).l - a]] := m
  have nn : nm ps i a = [i, a] := nm_mid (by omega) (by omega)
  rcases List.mem_cons.mp m' with e | m'
  · obtain ⟨e1, e2⟩ := List.cons.inj e
    have e3 := (List.cons.inj e2).1
    rw [e1, roomAt_x T i]
    refine ⟨by omega, by omega, nm_0 ps i, ?_, ?_, nn⟩
    · unfold ab; split <;> omega
    · unfold ab; split <;> omega
  · obtain ⟨e1, e2⟩ := List.cons.inj (List.mem_singleton.mp m')
    have e3 := (List.cons.inj e2).1
    rw [e1, roomAt_y T h0 h1]
    refine ⟨by omega, by omega, nm_l (by omega), ?_, ?_, nn⟩
    · unfold ab; split <;> omega
    · unfold ab; split <;> omega
end
theorem chn_pcs {ps : List Pi} {p q : Pl} {r : List (List Int)} (h : Chn ps p r q) : ∀ c ∈ r, PcOk ps c := by
  induction h with
  | nil => exact fun _ z => nomatch z
  | cons ok _ ih =>
    intro c m
    rcases List.mem_cons.mp m with rfl | m
    · exact ok
    · exact ih c m
section
variable {P : Program} {w : World} {K : PySem.W.Frag} {mg : Str → Option Value} {base : Heap}
abbrev sRow : Stmt := topS 21
abbrev nRow : List Str := ["plan", "one", "other", "steps", "here", "last", "pieces", "pipe", "at", "beyond", "far"]
theorem scRow : FnScope nRow ["plan", "one", "other"] (defScope sRow) := ⟨rfl, rfl, rfl, by decide +kernel, rfl, by decide +kernel, by decide +kernel⟩
def spRow (C : Addr) : Sp := fun vs H Q _ => ∃ (a : Addr) (o1 o2 : V) (n : Int) (ps : List Pi) (d : Int → Int → Int) (p q : Pl), vs = [.ref a, o1, o2] ∧ PlanAt C [] H a n ps d ∧ Tm n ps d ∧ n ≤ 16 ∧ Dt [] H o1 (tupI p) ∧ Dt [] H o2 (tupI q) ∧ okP n ps p ∧ okP n ps q ∧
  ∀ (H' : Hp) (l : Addr) (us : List V) (pcs : List (List Int)), Keep [] H H' → H' l = some (.lst us) → Dts [] H' us (pcs.map tupI) → Chn ps p pcs q → ptot pcs = Dp ps d p q → pcs.length ≤ 100 → Q (.ref l) H'
def spRowZ (C : Addr) : Sp := fun vs H Q _ => ∃ (a : Addr) (o1 o2 : V) (n : Int) (ps : List Pi) (d : Int → Int → Int) (p q : Pl), vs = [.ref a, o1, o2] ∧ PlanAt C [] H a n ps d ∧ Tm n ps d ∧ n ≤ 16 ∧ Dt [] H o1 (tupI p) ∧ Dt [] H o2 (tupI q) ∧ okP n ps p ∧ okP n ps q ∧
  ∀ (H' : Hp) (l : Addr) (us : List V) (pcs : List (List Int)), Keep [] H H' → H l = none → H' l = some (.lst us) → Dts [] H' us (pcs.map tupI) → Chn ps p pcs q → ptot pcs = Dp ps d p q → pcs.length ≤ 20 → (p ≠ q → ∀ c ∈ pcs, c.getD 1 0 ≠ c.getD 2 0) → (∀ c ∈ pcs.dropLast, c.getD 2 0 = 0 ∨ c.getD 2 0 = (pr ps (c.getD 0 0)).l) → Q (.ref l) H'
/-! what the loop keeps: where it is, the pieces so far, the rooms that were left -/
structure RowI (n : Int) (ps : List Pi) (d : Int → Int → Int) (p : Pl) (s e fr : Int) (here : Int) (pcs : List (List Int)) (vis : List Int) : Prop where
  h0 : 0 ≤ here
  h1 : here < n
  ch : Chn ps p pcs [here]
  tot : ptot pcs + d here fr + e = s
  nd : vis.Nodup
  rg : ∀ v ∈ vis, 0 ≤ v ∧ v < n ∧ d fr here < d fr v
  few : pcs.length ≤ vis.length + 1
  nz : ∀ c ∈ pcs, c.getD 1 0 ≠ c.getD 2 0
  rm : ∀ c ∈ pcs, c.getD 2 0 = 0 ∨ c.getD 2 0 = (pr ps (c.getD 0 0)).l
theorem tups_keep {av : List Addr} {G G' : Hp} (k : ∀ b xs, G b = some (.tup xs) → G' b = some (.tup xs)) : ∀ (us : List V) (pcs : List (List Int)), Dts av G us (pcs.map tupI) → Dts av G' us (pcs.map tupI)
  | [], [], _ => .nil
  | _ :: us, c :: pcs, h => by
    cases h with
    | cons h1 h2 =>
      obtain ⟨t, rfl, nt, et⟩ := tupI_at h1
      exact .cons (.tup nt (k t _ et) (Dts.ints c)) (tups_keep k us pcs h2)
  | [], _ :: _, h => nomatch h
  | _ :: _, [], h => nomatch h
theorem app_lst {H G : Hp} {l t : Addr} {us : List V} {pcs : List (List Int)} (c : List Int) (nl : H l = none) (kG : Keep [] H G) (el : G l = some (.lst us)) (du : Dts [] G us (pcs.map tupI)) (nt : G t = none) :
    Keep [] H (upd (upd G t (.tup (c.map V.int))) l (.lst (us ++ [.ref t]))) ∧ (upd (upd G t (.tup (c.map V.int))) l (.lst (us ++ [.ref t]))) l = some (.lst (us ++ [.ref t])) ∧ Dts [] (upd (upd G t (.tup (c.map V.int))) l (.lst (us ++ [.ref t]))) (us ++ [.ref t]) ((pcs ++ [c]).map tupI) ∧ (upd G t (.tup (c.map V.int))) l = some (.lst us) := by
  have ntl : l ≠ t := ne_of_none el nt
  have el1 : (upd G t (.tup (c.map V.int))) l = some (.lst us) := by rw [upd_ne ntl]; exact el
  have kt : ∀ b xs, (upd G t (.tup (c.map V.int))) b = some (.tup xs) → (upd (upd G t (.tup (c.map V.int))) l (.lst (us ++ [.ref t]))) b = some (.tup xs) := keepTup (u := .lst (us ++ [.ref t])) el1 (fun xs z => by cases z)
  refine ⟨(kG.trans (Keep.new nt)).upd nl, upd_same, ?_, el1⟩
  rw [List.map_append]
  exact Dts.app (tups_keep (fun b xs eb => kt b xs (keepTupN nt b xs eb)) us pcs du) (.cons (.tup List.not_mem_nil (kt t _ upd_same) (Dts.ints c)) .nil)
theorem RowI.few' {n : Int} {ps : List Pi} {d : Int → Int → Int} {p : Pl} {s e fr here : Int} {pcs : List (List Int)} {vis : List Int} (I : RowI n ps d p s e fr here pcs vis) (hn : n ≤ 16) : pcs.length ≤ 17 := by
  have := pigeon 16 vis I.nd (fun t ht => by have := I.rg t ht; omega)
  have := I.few
  omega
theorem RowI.next {n : Int} {ps : List Pi} {d : Int → Int → Int} (T : Tm n ps d) {p : Pl} {s e fr here : Int} {pcs : List (List Int)} {vis : List Int} (I : RowI n ps d p s e fr here pcs vis) (f0 : 0 ≤ fr) (f1 : fr < n) {row : List Int} (h : TowRow ps d fr here row) :
    ∃ i a y b : Int, row = [i, a, y, b] ∧ RowI n ps d p s e fr y (pcs ++ [[i, a, b]]) (vis ++ [here]) ∧ (d fr y).toNat < (d fr here).toNat := by
  obtain ⟨i, pp, gp, h⟩ := h
  have il : i < ps.length := (List.getElem?_eq_some_iff.mp gp).1
  have ep := pr_of gp
  have m : pp ∈ ps := List.mem_of_getElem? gp
  obtain ⟨x0, x1, y0, y1, l1⟩ := T.ok pp m
  have nnf : ∀ t, 0 ≤ t → t < n → 0 ≤ d fr t := fun t t0 t1 => by
    by_cases z : fr = t
    · subst z; rw [T.zero]; exact Int.le_refl 0
    · have := T.pos fr t f0 f1 t0 t1 z; omega
  have fin : ∀ (a b y : Int), 0 ≤ y → y < n → ((a = 0 ∧ b = pp.l ∧ pp.x = here ∧ pp.y = y) ∨ (a = pp.l ∧ b = 0 ∧ pp.y = here ∧ pp.x = y)) → d fr y + pp.l = d fr here → RowI n ps d p s e fr y (pcs ++ [[(i : Int), a, b]]) (vis ++ [here]) ∧ (d fr y).toNat < (d fr here).toNat := fun a b y hy0 hy1 hab hd => by
    have pl : plen [(i : Int), a, b] = pp.l := by
      show ab a b = pp.l
      unfold ab
      rcases hab with ⟨h1, h2, _⟩ | ⟨h1, h2, _⟩ <;> rw [h1, h2] <;> split <;> omega
    have eb : [here] = beg ps [(i : Int), a, b] := by
      show _ = nm ps (i : Int) a
      rcases hab with ⟨h1, h2, h3, _⟩ | ⟨h1, h2, h3, _⟩
      · rw [h1, nm_0, ep, h3]
      · have z := nm_l (ps := ps) (i := (i : Int)) (by rw [ep]; omega)
        rw [ep] at z
        rw [h1, z, h3]
    have ef : fin' ps [(i : Int), a, b] = [y] := by
      show nm ps (i : Int) b = _
      rcases hab with ⟨h1, h2, _, h3⟩ | ⟨h1, h2, _, h3⟩
      · have z := nm_l (ps := ps) (i := (i : Int)) (by rw [ep]; omega)
        rw [ep] at z
        rw [h2, z, h3]
      · rw [h2, nm_0, ep, h3]
    have ok : PcOk ps [(i : Int), a, b] := ⟨i, a, b, rfl, by omega, by omega, by rcases hab with ⟨h1, h2, _⟩ | ⟨h1, h2, _⟩ <;> omega, by rw [ep]; rcases hab with ⟨h1, h2, _⟩ | ⟨h1, h2, _⟩ <;> omega, by rcases hab with ⟨h1, h2, _⟩ | ⟨h1, h2, _⟩ <;> omega, by rw [ep]; rcases hab with ⟨h1, h2, _⟩ | ⟨h1, h2, _⟩ <;> omega⟩
    have ny := nnf y hy0 hy1
    refine ⟨⟨hy0, hy1, ?_, ?_, ?_, fun v hv => ?_, ?_, fun c hc => (List.mem_append.mp hc).elim (I.nz c) (fun hc => by
      rw [List.mem_singleton.mp hc]
      show a ≠ b
      rcases hab with ⟨h1, h2, _⟩ | ⟨h1, h2, _⟩ <;> omega), fun c hc => (List.mem_append.mp hc).elim (I.rm c) (fun hc => by
      rw [List.mem_singleton.mp hc]
      show b = 0 ∨ b = (pr ps (i : Int)).l
      rw [ep]
      rcases hab with ⟨h1, h2, _⟩ | ⟨h1, h2, _⟩
      · exact .inr h2
      · exact .inl h2)⟩, by omega⟩
    · have z := I.ch.snoc ok eb
      rw [ef] at z; exact z
    · rw [ptot_snoc, pl]
      have := I.tot
      rw [T.sym y fr]
      rw [T.sym here fr] at this
      omega
    · refine List.nodup_append.mpr ⟨I.nd, by simp, fun u hu v hv => ?_⟩
      rw [List.mem_singleton.mp hv]
      intro z
      have := (I.rg u hu).2.2
      rw [z] at this
      omega
    · rcases List.mem_append.mp hv with hv | hv
      · have := I.rg v hv
        exact ⟨this.1, this.2.1, by omega⟩
      · rw [List.mem_singleton.mp hv]
        exact ⟨I.h0, I.h1, by omega⟩
    · rw [List.length_append, List.length_append, List.length_singleton, List.length_singleton]
      have := I.few
      omega
  rcases h with ⟨rfl, h1, h2⟩ | ⟨rfl, h1, h2⟩
  · exact ⟨_, _, _, _, rfl, fin _ _ _ y0 y1 (.inl ⟨rfl, rfl, h1, rfl⟩) h2⟩
  · exact ⟨_, _, _, _, rfl, fin _ _ _ x0 x1 (.inr ⟨rfl, rfl, h1, rfl⟩) h2⟩
theorem ok_rowZ {C : Addr} (h : Has K mg "row_of" sRow) (B : Blt mg) (X : PlanTxt K C) (CO : Can P w K mg base "are_in_one_pipe" ["one", "other"] 1 spOnePipe) (CS : Can P w K mg base "shortest" ["plan", "one", "other"] 2 (spShort C)) (CR : Can P w K mg base "room_at" ["plan", "pipe", "room"] 1 (spRAt C)) : Can P w K mg base "row_of" ["plan", "one", "other"] 3 (spRowZ C) := by
  obtain ⟨f, fd, F, g⟩ := h
  refine ⟨f, fd, F.ok (k := 2) scRow (fun vs H Q E h => ?_) (fun cdv A outer s H vs Q E hr h => ?_), g, F.kp, F.binds fun _ _ _ _ _ _ us hl => match us, hl with | [_, _, _], _ => rfl⟩
  · obtain ⟨a, o1, o2, n, ps, d, p, q, rfl, _⟩ := h
    rfl
  · obtain ⟨a, o1, o2, n, ps, d, p, q, rfl, pl, T, hn, h1, h2, okp, okq, k⟩ := h
    refine ⟨_, pss_cons (ps_if (pt_val (pe_can CO (hr.mono (by decide)) (by rfl) (pa_cons (pv 1) (pa_cons (pv 2) pa_nil)))) (pss_one (ps_ret (pe_lst (pa_cons (pe_tup (pa_cons (pe_ix ix_tup (pv 1) pe_int (fun _ _ => rfl)) (pa_cons (pe_ix ix_tup (pv 1) pe_int (fun _ _ => rfl)) (pa_cons (pe_ix ix_tup (pv 2) pe_int (fun _ _ => rfl)) pa_nil)))) pa_nil)))) pss_nil)
      (pss_cons (ps_asg (pe_can CS (hr.mono (by decide)) (by rfl) (pa_cons (pv 0) (pa_cons (pv 1) (pa_cons (pv 2) pa_nil)))) (pg_tup (by rfl) (pgs_cons (pg_name (i := 3) scRow.nd rfl (by first | exact Or.inl rfl | exact Or.inr rfl)) (pgs_cons (pg_name (i := 4) scRow.nd rfl (by first | exact Or.inl rfl | exact Or.inr rfl)) (pgs_cons (pg_name (i := 5) scRow.nd rfl (by first | exact Or.inl rfl | exact Or.inr rfl)) pgs_nil)))))
      (pss_cons (ps_set (i := 6) scRow.nd rfl (by first | exact Or.inl rfl | exact Or.inr rfl) (pe_lst pa_nil))
      (pss_cons (ps_if (pt_cmpR op_eq (pe_callB call_len_seq (by rfl) B.len_ PySem.boot_len (pa_cons (pv 1) pa_nil)) pe_int (nomark _)) (pss_one (ps_expr (pe_bm PySem.F.plainAttrs_list PySem.F.slot_list_append PySem.F.type_list_append mt_append (pv 6) (pa_cons (pe_tup (pa_cons (pe_ix ix_tup (pv 1) pe_int (fun _ _ => rfl)) (pa_cons (pe_ix ix_tup (pv 1) pe_int (fun _ _ => rfl)) (pa_cons (pe_can CR (hr.mono (by decide)) (by rfl) (pa_cons (pv 0) (pa_cons (pe_ix ix_tup (pv 1) pe_int (fun _ _ => rfl)) (pa_cons (pv 4) pa_nil)))) pa_nil)))) pa_nil)))) pss_nil)
      (pss_cons (ps_while PassesOwn.never (pt_cmpR op_ne (pv 4) (pv 5) (nomark _))
      (pss_cons (ps_asg (pe_dget (hu_of hr) (pe_ix ix_list (pe_fld (pv 0) rfl) (pv 5) (fun _ _ => rfl)) (pv 4) (fun _ _ => rfl)) (pg_tup (by rfl) (pgs_cons (pg_name (i := 7) scRow.nd rfl (by first | exact Or.inl rfl | exact Or.inr rfl)) (pgs_cons (pg_name (i := 8) scRow.nd rfl (by first | exact Or.inl rfl | exact Or.inr rfl)) (pgs_cons (pg_name (i := 9) scRow.nd rfl (by first | exact Or.inl rfl | exact Or.inr rfl)) (pgs_cons (pg_name (i := 10) scRow.nd rfl (by first | exact Or.inl rfl | exact Or.inr rfl)) pgs_nil))))))
      (pss_cons (ps_expr (pe_bm PySem.F.plainAttrs_list PySem.F.slot_list_append PySem.F.type_list_append mt_append (pv 6) (pa_cons (pe_tup (pa_cons (pv 7) (pa_cons (pv 8) (pa_cons (pv 10) pa_nil)))) pa_nil)))
      (pss_one (ps_set (i := 4) scRow.nd rfl (by first | exact Or.inl rfl | exact Or.inr rfl) (pv 9))))))
      (pss_cons (ps_if (pt_cmpR op_eq (pe_callB call_len_seq (by rfl) B.len_ PySem.boot_len (pa_cons (pv 2) pa_nil)) pe_int (nomark _)) (pss_one (ps_expr (pe_bm PySem.F.plainAttrs_list PySem.F.slot_list_append PySem.F.type_list_append mt_append (pv 6) (pa_cons (pe_tup (pa_cons (pe_ix ix_tup (pv 2) pe_int (fun _ _ => rfl)) (pa_cons (pe_can CR (hr.mono (by decide)) (by rfl) (pa_cons (pv 0) (pa_cons (pe_ix ix_tup (pv 2) pe_int (fun _ _ => rfl)) (pa_cons (pv 5) pa_nil)))) (pa_cons (pe_ix ix_tup (pv 2) pe_int (fun _ _ => rfl)) pa_nil)))) pa_nil)))) pss_nil)
      (pss_one (ps_ret (pv 6)))))))), ?_⟩
    refine ⟨o1, rfl, o2, rfl, o1, o2, p, q, rfl, h1, h2, ok_ne okp, ok_ne okq, _, rfl, ?_⟩
    cases c : onePipe p q with
    | true =>
      obtain ⟨i, x, y, rfl, rfl, e⟩ := one_pipe (d := d) okp okq c
      obtain ⟨a1, rfl, _, e1⟩ := tupI_at h1
      obtain ⟨a2, rfl, _, e2⟩ := tupI_at h2
      refine iteT ⟨.ref a1, rfl, a1, _, 0, .int i, rfl, rfl, SqT.of e1, atI_nat (j := 0) rfl, .ref a1, rfl, a1, _, 1, .int x, rfl, rfl, SqT.of e1, atI_nat (j := 1) rfl, .ref a2, rfl, a2, _, 1, .int y, rfl, rfl, SqT.of e2, atI_nat (j := 1) rfl, show 3 ≤ sizeLine by decide, fun t nt => ⟨show 1 ≤ sizeLine by decide, fun l nl => ?_⟩⟩
      rcases ok_cases okp with ⟨_, z, _⟩ | ⟨i', x', z, i0, i1, x0, x1⟩
      · cases z
      obtain ⟨ei, z2⟩ := List.cons.inj z
      obtain ⟨ex, _⟩ := List.cons.inj z2
      subst ei ex
      rcases ok_cases okq with ⟨_, z, _⟩ | ⟨i', y', z, _, _, y0, y1⟩
      · cases z
      obtain ⟨ei, z2⟩ := List.cons.inj z
      obtain ⟨ey, _⟩ := List.cons.inj z2
      subst ei ey
      have nx : nm ps i x = [i, x] := nm_mid (by omega) (by omega)
      have ny : nm ps i y = [i, y] := nm_mid (by omega) (by omega)
      have ok : PcOk ps [i, x, y] := ⟨i, x, y, rfl, i0, i1, by omega, by omega, by omega, by omega⟩
      have ch : Chn ps (beg ps [i, x, y]) [[i, x, y]] (fin' ps [i, x, y]) := .cons ok (.nil _)
      have e1' : beg ps [i, x, y] = [i, x] := nx
      have e2' : fin' ps [i, x, y] = [i, y] := ny
      rw [e1', e2'] at ch
      refine k _ l _ [[i, x, y]] ((Keep.new nt).trans (Keep.new nl)) ((Keep.new nt).fr nl) upd_same (.cons (.tup List.not_mem_nil (by rw [upd_ne (ne_of_none upd_same nl)]; exact upd_same) (Dts.ints [i, x, y])) .nil) ch ?_ (by show 1 ≤ 20; decide) (fun ne c hc => by
        rw [List.mem_singleton.mp hc]
        show x ≠ y
        exact fun h => ne (by rw [h])) (fun c hc => (nomatch hc))
      rw [e]
      show ab x y + 0 = ab x y
      omega
    | false =>
      refine iteF ⟨.ref a, rfl, o1, rfl, o2, rfl, a, o1, o2, n, ps, d, p, q, rfl, pl, T, h1, h2, okp, okq, fun H' v ns kH dv mn hm => ?_⟩
      have es := trips_min T okp okq c mn hm
      obtain ⟨en, men, mn2⟩ := List.mem_flatMap.mp mn
      obtain ⟨ef, mef, rfl⟩ := List.mem_map.mp mn2
      obtain ⟨r, b, rfl, r0, r1⟩ := exits_ok T okp en men
      obtain ⟨fr, e, rfl, f0, f1⟩ := exits_ok T okq ef mef
      have es' : b + d r fr + e = Dp ps d p q := es
      obtain ⟨t, rfl, _, et⟩ := tupI_at dv
      refine ⟨t, _, rfl, SqT.of et, rfl, _, _, rfl, _, _, rfl, _, [], rfl, rfl, ?_⟩
      refine ⟨show 0 ≤ sizeLine by decide, fun l nl => ?_⟩
      have kl : Keep [] H (upd H' l (.lst [])) := kH.trans (Keep.new nl)
      have fl : H l = none := kH.fr nl
      have el : (upd H' l (.lst [])) l = some (.lst []) := upd_same
      generalize upd H' l (.lst []) = G0 at kl el ⊢
      obtain ⟨a1, rfl, _, e1⟩ := tupI_at h1
      obtain ⟨a2, rfl, _, e2⟩ := tupI_at h2
      have big : ∀ x : Nat, x ≤ 17 → x < sizeLine := fun x hx => Nat.lt_of_lt_of_le (by omega : x < 1000) (small1000 (by omega))
      rcases ok_cases okp with ⟨r', ep, _, _⟩ | ⟨i, x, ep, i0, i1, x0, x1⟩
      case' inl =>
        have z : [r, b] ∈ [[r', 0]] := by rw [ep] at men; exact men
        obtain ⟨z1, z2⟩ := List.cons.inj (List.mem_singleton.mp z)
        have z3 := (List.cons.inj z2).1
        have I0 : RowI n ps d p (Dp ps d p q) e fr r [] [] := ⟨r0, r1, by rw [ep, ← z1]; exact .nil _, by show 0 + d r fr + e = _; omega, List.nodup_nil, fun _ z => (nomatch z), Nat.zero_le _, fun _ z => (nomatch z), fun _ z => (nomatch z)⟩
        have e1' : H a1 = some (.tup [.int r']) := by rw [ep] at e1; exact e1
        refine ⟨.ref a1, rfl, a1, _, rfl, .inr (SqT.of (kl a1 _ e1' List.not_mem_nil)), rfl, false, rfl, iteF ?_⟩
        refine ⟨fun m σ G => ∃ (here : Int) (us : List V) (pcs : List (List Int)) (vis : List Int) (S : V) (s7 s8 s9 s10 : Option V), σ = [some (.ref a), some (.ref a1), some (.ref a2), some S, some (.int here), some (.int fr), some (.ref l), s7, s8, s9, s10] ∧ Keep [] H G ∧ G l = some (.lst us) ∧ Dts [] G us (pcs.map tupI) ∧ RowI n ps d p (Dp ps d p q) e fr here pcs vis ∧ m = (d fr here).toNat,
          ⟨_, r, [], [], [], _, none, none, none, none, rfl, kl, el, .nil, I0, rfl⟩, fun m σ G pp => ?_⟩
      case' inr =>
        have e1' : H a1 = some (.tup [.int i, .int x]) := by rw [ep] at e1; exact e1
        have e1G := kl a1 _ e1' List.not_mem_nil
        have men' : [r, b] ∈ exitsL ps [i, x] := by rw [ep] at men; exact men
        obtain ⟨g0, g1, g2, g3, _, g5⟩ := room_pc T i0 i1 x0 x1 men'
        refine ⟨.ref a1, rfl, a1, _, rfl, .inr (SqT.of e1G), rfl, true, rfl, iteT ?_⟩
        refine ⟨.ref l, rfl, .inl ⟨rfl, _, SqL.of el⟩, .ref a1, rfl, a1, _, 0, .int i, rfl, rfl, SqT.of e1G, atI_nat (j := 0) rfl, .ref a1, rfl, a1, _, 1, .int x, rfl, rfl, SqT.of e1G, atI_nat (j := 1) rfl, .ref a, rfl, .ref a1, rfl, a1, _, 0, .int i, rfl, rfl, SqT.of e1G, atI_nat (j := 0) rfl, .int r, rfl, a, n, i, r, ps, d, rfl, pl.keep kl, i0, i1, show 3 ≤ sizeLine by decide, fun t nt => ?_⟩
        obtain ⟨m1, m2, m3, m4⟩ := app_lst (pcs := []) [i, x, roomAt ps i r] fl kl el .nil nt
        refine ⟨l, _, _, rfl, rfl, m4, big 0 (by omega), ?_⟩
        have ok : PcOk ps [i, x, roomAt ps i r] := ⟨i, x, _, rfl, i0, i1, by omega, by omega, g0, g1⟩
        have ch : Chn ps (beg ps [i, x, roomAt ps i r]) [[i, x, roomAt ps i r]] (fin' ps [i, x, roomAt ps i r]) := .cons ok (.nil _)
        have b1 : beg ps [i, x, roomAt ps i r] = p := g5.trans ep.symm
        have b2 : fin' ps [i, x, roomAt ps i r] = [r] := g2
        rw [b1, b2] at ch
        have I0 : RowI n ps d p (Dp ps d p q) e fr r [[i, x, roomAt ps i r]] [] := ⟨r0, r1, ch, by show ab x (roomAt ps i r) + 0 + d r fr + e = _; omega, List.nodup_nil, fun _ z => (nomatch z), Nat.le_refl _, fun c hc => by
          rw [List.mem_singleton.mp hc]
          show x ≠ roomAt ps i r
          unfold roomAt
          split <;> omega, fun c hc => by
          rw [List.mem_singleton.mp hc]
          show roomAt ps i r = 0 ∨ roomAt ps i r = (pr ps i).l
          unfold roomAt
          split
          · exact .inl rfl
          · exact .inr rfl⟩
        refine ⟨fun m σ G => ∃ (here : Int) (us : List V) (pcs : List (List Int)) (vis : List Int) (S : V) (s7 s8 s9 s10 : Option V), σ = [some (.ref a), some (.ref a1), some (.ref a2), some S, some (.int here), some (.int fr), some (.ref l), s7, s8, s9, s10] ∧ Keep [] H G ∧ G l = some (.lst us) ∧ Dts [] G us (pcs.map tupI) ∧ RowI n ps d p (Dp ps d p q) e fr here pcs vis ∧ m = (d fr here).toNat,
          ⟨_, r, _, _, [], _, none, none, none, none, rfl, m1, m2, m3, I0, rfl⟩, fun m σ G pp => ?_⟩
      all_goals
        clear ep
        obtain ⟨here, us, pcs, vis, S, s7, s8, s9, s10, rfl, kG, elG, du, I, rfl⟩ := pp
        have few := I.few' hn
        have lus : us.length = pcs.length := by rw [du.len, List.length_map]
        refine ⟨.int here, rfl, .int fr, rfl, rfl, _, rfl, ?_⟩
        by_cases eh : here = fr
        · rw [show (!decide (V.int here = V.int fr)) = false from by rw [decide_eq_true (congrArg V.int eh)]; rfl]
          refine iteF ?_
          have tot := I.tot
          have ch := I.ch
          rw [eh, T.zero] at tot
          rw [eh] at ch
          have e2G := kG a2 _ e2 List.not_mem_nil
          rcases ok_cases okq with ⟨t', eq, _, _⟩ | ⟨j, y, eq, j0, j1, y0, y1⟩
          · have z : [fr, e] ∈ [[t', 0]] := by rw [eq] at mef; exact mef
            obtain ⟨z1, z2⟩ := List.cons.inj (List.mem_singleton.mp z)
            have z3 := (List.cons.inj z2).1
            have e2' : G a2 = some (.tup [.int t']) := by rw [eq] at e2G; exact e2G
            refine ⟨.ref a2, rfl, a2, _, rfl, .inr (SqT.of e2'), rfl, false, rfl, iteF ?_⟩
            exact ⟨.ref l, rfl, k G l us pcs kG fl elG du (by rw [eq, ← z1]; exact ch) (by omega) (by omega) (fun _ => I.nz) (fun c hc => I.rm c (List.dropLast_subset _ hc))⟩
          · have e2' : G a2 = some (.tup [.int j, .int y]) := by rw [eq] at e2G; exact e2G
            have mef' : [fr, e] ∈ exitsL ps [j, y] := by rw [eq] at mef; exact mef
            obtain ⟨g0, g1, g2, _, g4, g5⟩ := room_pc T j0 j1 y0 y1 mef'
            refine ⟨.ref a2, rfl, a2, _, rfl, .inr (SqT.of e2'), rfl, true, rfl, iteT ?_⟩
            refine ⟨.ref l, rfl, .inl ⟨rfl, _, SqL.of elG⟩, .ref a2, rfl, a2, _, 0, .int j, rfl, rfl, SqT.of e2', atI_nat (j := 0) rfl, .ref a, rfl, .ref a2, rfl, a2, _, 0, .int j, rfl, rfl, SqT.of e2', atI_nat (j := 0) rfl, .int fr, rfl, a, n, j, fr, ps, d, rfl, pl.keep kG, j0, j1, .ref a2, rfl, a2, _, 1, .int y, rfl, rfl, SqT.of e2', atI_nat (j := 1) rfl, show 3 ≤ sizeLine by decide, fun t nt => ?_⟩
            obtain ⟨m1, m2, m3, m4⟩ := app_lst [j, roomAt ps j fr, y] fl kG elG du nt
            refine ⟨l, _, _, rfl, rfl, m4, big _ (by omega), ?_⟩
            have ok : PcOk ps [j, roomAt ps j fr, y] := ⟨j, _, y, rfl, j0, j1, g0, g1, by omega, by omega⟩
            have ch2 := ch.snoc ok g2.symm
            have b2 : fin' ps [j, roomAt ps j fr, y] = q := g5.trans eq.symm
            rw [b2] at ch2
            refine ⟨.ref l, rfl, k _ l _ _ m1 fl m2 m3 ch2 ?_ (by rw [List.length_append, List.length_singleton]; omega) (fun _ c hc => (List.mem_append.mp hc).elim (I.nz c) (fun hc => by
              rw [List.mem_singleton.mp hc]
              show roomAt ps j fr ≠ y
              unfold roomAt
              split <;> omega)) (fun c hc => I.rm c (by rw [List.dropLast_concat] at hc; exact hc))⟩
            rw [ptot_snoc]
            show ptot pcs + ab (roomAt ps j fr) y = _
            omega
        · rw [show (!decide (V.int here = V.int fr)) = true from by rw [decide_eq_false (fun z => eh (V.int.inj z))]; rfl]
          refine iteT ?_
          refine ⟨fun σ' G' => ∃ m', m' < (d fr here).toNat ∧ ∃ (here : Int) (us : List V) (pcs : List (List Int)) (vis : List Int) (S : V) (s7 s8 s9 s10 : Option V), σ' = [some (.ref a), some (.ref a1), some (.ref a2), some S, some (.int here), some (.int fr), some (.ref l), s7, s8, s9, s10] ∧ Keep [] H G' ∧ G' l = some (.lst us) ∧ Dts [] G' us (pcs.map tupI) ∧ RowI n ps d p (Dp ps d p q) e fr here pcs vis ∧ m' = (d fr here).toNat, fun σ' G' h => h, ?_⟩
          obtain ⟨dx, hb, pp, dl, gl, tl, xp, ds, gs, ws, q1, q2, q3, q4, q5, q6, q7, q8, q9, b1, b2, b3, b4, b5, b6, b7, b8, b9, c1, c2⟩ := pl.keep kG
          obtain ⟨wz, gwz⟩ : ∃ z, ws[fr.toNat]? = some z := ⟨_, List.getElem?_eq_getElem (by omega)⟩
          obtain ⟨_, kvs, ekv, tw⟩ := c2 fr.toNat wz gwz
          have efr : ((fr.toNat : Nat) : Int) = fr := by omega
          rw [efr] at tw
          obtain ⟨Tr', row, hval, _, eT, trow⟩ := tw here (start_mem.mpr ⟨I.h0, by have := I.h1; omega⟩) eh
          obtain ⟨i', x', y', z', rfl, I', ms⟩ := I.next T f0 f1 trow
          refine ⟨.ref a, rfl, a, C, dx, _, .ref tl, rfl, q2, X.cl, X.nT, pf_tow .., .int fr, rfl, tl, _, fr, .ref wz, rfl, rfl, SqL.of b9, atI_of f0 (by rw [List.getElem?_map, gwz]; rfl), .int here, rfl, wz, .ref Tr', rfl, by rw [← hval]; exact DGet.k (k := Sum.inl here) ekv, Tr', _, rfl, SqT.of eT, rfl, _, _, rfl, _, _, rfl, _, _, rfl, _, [], rfl, rfl, ?_⟩
          refine ⟨.ref l, rfl, .inl ⟨rfl, _, SqL.of elG⟩, .int i', rfl, .int x', rfl, .int z', rfl, show 3 ≤ sizeLine by decide, fun t nt => ?_⟩
          obtain ⟨m1, m2, m3, m4⟩ := app_lst [i', x', z'] fl kG elG du nt
          refine ⟨l, _, _, rfl, rfl, m4, big _ (by omega), .int y', rfl, ?_⟩
          exact ⟨_, ms, y', _, _, _, _, _, _, _, _, rfl, m1, m2, m3, I', rfl⟩
theorem ok_row {C : Addr} (h : Has K mg "row_of" sRow) (B : Blt mg) (X : PlanTxt K C) (CO : Can P w K mg base "are_in_one_pipe" ["one", "other"] 1 spOnePipe) (CS : Can P w K mg base "shortest" ["plan", "one", "other"] 2 (spShort C)) (CR : Can P w K mg base "room_at" ["plan", "pipe", "room"] 1 (spRAt C)) : Can P w K mg base "row_of" ["plan", "one", "other"] 3 (spRow C) := by
  obtain ⟨f, fd, F, g, kp, bi⟩ := ok_rowZ h B X CO CS CR
  exact ⟨f, fd, F.imp fun vs H Q E h => (by
    obtain ⟨a, o1, o2, n, ps, d, p, q, e, pl, T, hn, h1, h2, okp, okq, k⟩ := h
    exact ⟨a, o1, o2, n, ps, d, p, q, e, pl, T, hn, h1, h2, okp, okq, fun H' l us pcs a1 _ a2 a3 a4 a5 a6 _ _ => k H' l us pcs a1 a2 a3 a4 a5 (by omega)⟩), g, kp, bi⟩
end
end Rw

namespace Rw
open PySem PySem.Spec PyProof.Rows L2
end Rw

namespace Rw
open PySem PySem.Spec PyProof.Rows L2
def aStr : PyData → Bool
  | .str _ => true
  | _ => false
theorem kit_str (d : PyData) : kitB (tn d) "str" = some (aStr d) := by
  cases d <;> first | exact (show kitB "NoneType" "str" = some false by decide +kernel) | exact (show kitB "bool" "str" = some false by decide +kernel) | exact (show kitB "int" "str" = some false by decide +kernel) | exact (show kitB "str" "str" = some true by decide +kernel) | exact (show kitB "list" "str" = some false by decide +kernel) | exact (show kitB "tuple" "str" = some false by decide +kernel) | exact (show kitB "dict" "str" = some false by decide +kernel) | (rename_i l; cases l <;> first | exact (show kitB "dict" "str" = some false by decide +kernel) | exact (show kitB "tuple" "str" = some false by decide +kernel))
def aLst : PyData → Bool
  | .list _ => true
  | _ => false
theorem kit_lst (d : PyData) : kitB (tn d) "list" = some (aLst d) := by
  cases d <;> first | exact (show kitB "NoneType" "list" = some false by decide +kernel) | exact (show kitB "bool" "list" = some false by decide +kernel) | exact (show kitB "int" "list" = some false by decide +kernel) | exact (show kitB "str" "list" = some false by decide +kernel) | exact (show kitB "list" "list" = some true by decide +kernel) | exact (show kitB "tuple" "list" = some false by decide +kernel) | exact (show kitB "dict" "list" = some false by decide +kernel) | (rename_i l; cases l <;> first | exact (show kitB "dict" "list" = some false by decide +kernel) | exact (show kitB "tuple" "list" = some false by decide +kernel))
theorem kit_int_lt {K : PySem.W.Frag} : PySem.W.kitAny K (.type "int") [.type "list", .type "tuple"] = some false :=
  kitAny_cons (kit_ty (r := false) (by decide +kernel)) (fun _ => kitAny_cons (kit_ty (r := false) (by decide +kernel)) (fun _ => rfl) (fun e => by cases e)) (fun e => by cases e)
theorem kit_tup_lt {K : PySem.W.Frag} : PySem.W.kitAny K (.type "tuple") [.type "list", .type "tuple"] = some true :=
  kitAny_cons (kit_ty (r := false) (by decide +kernel)) (fun _ => kitAny_cons (kit_ty (r := true) (by decide +kernel)) (fun e => by cases e) (fun _ => rfl)) (fun e => by cases e)
end Rw

namespace Rw
open PySem PySem.Spec PyProof.Rows L2
/-! rules that several laws' own defs want -/
theorem abs_nn (i : Int) : 0 ≤ (if i < 0 then -i else i) := by split <;> omega
theorem st {H : Hp} {p b : Addr} {o u : HO} (n : H p = none) (e : H b = some u) : (upd H p o) b = some u := by rw [upd_ne (ne_of_none e n)]; exact e
variable {X : Cx}
def rNilL (K : PySem.W.Frag) (neg : Bool) : R2 := fun x y H Q => ∃ a b xs, x = .ref a ∧ y = .ref b ∧ SqL K H a xs ∧ SqL K H b [] ∧ Q (.bl (if neg then !xs.isEmpty else xs.isEmpty)) H
theorem op_neNilL (hu : X.A.units < cLine) : OpR X (compareOp .NotEq) (rNilL X.K true) := by
  intro pins s σ H x y v u Q I rx ry h
  obtain ⟨a, b, xs, rfl, rfl, ha, hb, q⟩ := h
  cases rx
  cases ry
  obtain ⟨its, r, pl, _⟩ := I.list ha
  obtain ⟨its2, r2, pl2, _⟩ := I.list hb
  cases r2
  have fin : EP X pins σ Q (.bool (!xs.isEmpty)) s := ⟨.bl (!xs.isEmpty), H, I, rfl, q⟩
  cases r with
  | nil => exact SeqAt.RcNeAt.lists (A := X.A) (s := s) (e := fun _ => true) pl.isList pl2.isList rfl hu (fun j j1 _ => absurd j1 (Nat.not_lt_zero j)) X.prog X.w X.xe _ fin
  | cons _ _ => exact SeqAt.RcNeAt.lists_lengths (A := X.A) (s := s) pl.isList pl2.isList (by simp) hu X.prog X.w X.xe _ fin
theorem op_eqNilL (hu : X.A.units < cLine) : OpR X (compareOp .Eq) (rNilL X.K false) := by
  intro pins s σ H x y v u Q I rx ry h
  obtain ⟨a, b, xs, rfl, rfl, ha, hb, q⟩ := h
  cases rx
  cases ry
  obtain ⟨its, r, pl, _⟩ := I.list ha
  obtain ⟨its2, r2, pl2, _⟩ := I.list hb
  cases r2
  have fin : EP X pins σ Q (.bool xs.isEmpty) s := ⟨.bl xs.isEmpty, H, I, rfl, q⟩
  cases r with
  | nil => exact SeqAt.RcAt.lists (A := X.A) (s := s) (e := fun _ => true) pl.isList pl2.isList rfl hu (fun j j1 _ => absurd j1 (Nat.not_lt_zero j)) X.prog X.w X.xe _ fin
  | cons _ _ => exact SeqAt.RcAt.lists_lengths (A := X.A) (s := s) pl.isList pl2.isList (by simp) hu X.prog X.w X.xe _ fin
end Rw

namespace Rw
open PySem PySem.Spec PyProof.Rows L2
theorem Tr.kp {av xs : List Addr} {H H' : Hp} (t : Tr av H) (k : Keep xs H H') (e : Tr xs H') : Tr av H' := fun a m => by
  by_cases h : a ∈ xs
  · exact e a h
  · obtain ⟨o, z⟩ := t a m; exact ⟨o, k a o z h⟩
theorem Keep.fre {xs : List Addr} {H H' : Hp} {p : Addr} (k : Keep xs H H') (e : Tr xs H') (n : H' p = none) : H p = none := by
  cases z : H p with
  | none => rfl
  | some o =>
    by_cases h : p ∈ xs
    · obtain ⟨u, q⟩ := e p h; rw [n] at q; cases q
    · have := k p o z h; rw [n] at this; cases this
/-! ### tuples by their data: made, put together, cut -/
theorem tup_new {av : List Addr} {J : Hp} {xs : List V} {ds : List PyData} {Q : VK} (tr : Tr av J) (dx : Dts av J xs ds) (len : xs.length ≤ 1000) (k : ∀ J' r, Keep [] J J' → Tr av J' → J r = none → Dt av J' (.ref r) (.tuple ds) → Q (.ref r) J') : xs.length ≤ sizeLine ∧ ∀ p, J p = none → Q (.ref p) (upd J p (.tup xs)) :=
  ⟨Nat.le_trans len (show 1000 ≤ sizeLine by decide), fun p np => k _ p (Keep.new np) tr.upd np (.tup (tr.not np) upd_same (dx.keep (Keep.new np)))⟩
theorem tup_facts {av : List Addr} {J : Hp} {xs : List V} {ds : List PyData} {p : Addr} (tr : Tr av J) (dx : Dts av J xs ds) (np : J p = none) : Keep [] J (upd J p (.tup xs)) ∧ Tr av (upd J p (.tup xs)) ∧ Dt av (upd J p (.tup xs)) (.ref p) (.tuple ds) :=
  ⟨Keep.new np, tr.upd, .tup (tr.not np) upd_same (dx.keep (Keep.new np))⟩
theorem tup_at {av : List Addr} {J : Hp} {v : V} {ds : List PyData} (h : Dt av J v (.tuple ds)) : ∃ (a : Addr) (xs : List V), v = .ref a ∧ a ∉ av ∧ J a = some (.tup xs) ∧ Dts av J xs ds := by
  cases h with
  | tup n e d => exact ⟨_, _, rfl, n, e, d⟩
theorem cat_data {K : PySem.W.Frag} {av : List Addr} {J : Hp} {x y : V} {dx dy : List PyData} {Q : VK} (hx : Dt av J x (.tuple dx)) (hy : Dt av J y (.tuple dy)) (tr : Tr av J) (len : dx.length + dy.length ≤ 1000) (k : ∀ J' r, Keep [] J J' → Tr av J' → Dt av J' (.ref r) (.tuple (dx ++ dy)) → Q (.ref r) J') : rCatA K x y J Q := by
  obtain ⟨a, xs, rfl, na, ea, da⟩ := tup_at hx
  obtain ⟨b, ys, rfl, nb, eb, db⟩ := tup_at hy
  have lx := da.len
  have ly := db.len
  refine ⟨a, b, xs, ys, rfl, rfl, SqT.of ea, SqT.of eb, Nat.le_trans (by omega : xs.length + ys.length ≤ 1000) (show 1000 ≤ sizeLine by decide), fun z => ?_, fun _ z => ?_, fun _ _ p np => ?_⟩
  · have : dx = [] := List.eq_nil_of_length_eq_zero (by rw [← lx, z]; rfl)
    exact k J b (Keep.refl _ _) tr (by rw [this, List.nil_append]; exact hy)
  · have : dy = [] := List.eq_nil_of_length_eq_zero (by rw [← ly, z]; rfl)
    exact k J a (Keep.refl _ _) tr (by rw [this, List.append_nil]; exact hx)
  · exact k _ p (Keep.new np) tr.upd (.tup (tr.not np) upd_same ((da.app db).keep (Keep.new np)))
theorem six_nat (n d k : Nat) : HT.sIx n d (some (k : Int)) = min k n := HT.sIx_nat ..
theorem front_data {K : PySem.W.Frag} {av : List Addr} {J : Hp} {x : V} {dx : List PyData} {i : Int} {Q : VK} (hx : Dt av J x (.tuple dx)) (tr : Tr av J) (i0 : 0 ≤ i) (k : ∀ J' r, Keep [] J J' → Tr av J' → Dt av J' (.ref r) (.tuple (dx.take i.toNat)) → Q (.ref r) J') : rSlA K x none (some i) J Q := by
  obtain ⟨a, xs, rfl, na, ea, da⟩ := tup_at hx
  have ei : i = ((i.toNat : Nat) : Int) := by omega
  refine ⟨a, xs, rfl, SqT.of ea, fun z => ?_, fun _ p np => ?_⟩
  · have z2 := z.2
    rw [ei, six_nat] at z2
    exact k J a (Keep.refl _ _) tr (by rw [List.take_of_length_le (by rw [← da.len]; omega)]; exact hx)
  · refine k _ p (Keep.new np) tr.upd (.tup (tr.not np) upd_same ?_)
    rw [show cutV xs none (some i) = xs.take i.toNat by have := cut_to xs i.toNat; rw [← ei] at this; exact this]
    exact (da.take _).keep (Keep.new np)
theorem rear_data {K : PySem.W.Frag} {av : List Addr} {J : Hp} {x : V} {dx : List PyData} {i : Int} {Q : VK} (hx : Dt av J x (.tuple dx)) (tr : Tr av J) (i0 : 0 ≤ i) (k : ∀ J' r, Keep [] J J' → Tr av J' → Dt av J' (.ref r) (.tuple (dx.drop i.toNat)) → Q (.ref r) J') : rSlA K x (some i) none J Q := by
  obtain ⟨a, xs, rfl, na, ea, da⟩ := tup_at hx
  have ei : i = ((i.toNat : Nat) : Int) := by omega
  refine ⟨a, xs, rfl, SqT.of ea, fun z => ?_, fun _ p np => ?_⟩
  · have z1 := z.1
    rw [ei, six_nat] at z1
    refine k J a (Keep.refl _ _) tr ?_
    by_cases c : i.toNat = 0
    · rw [c, List.drop_zero]; exact hx
    · have : xs.length = 0 := by omega
      have : dx = [] := List.eq_nil_of_length_eq_zero (by rw [← da.len]; omega)
      rw [this, List.drop_nil, ← this]; exact hx
  · refine k _ p (Keep.new np) tr.upd (.tup (tr.not np) upd_same ?_)
    rw [show cutV xs (some i) none = xs.drop i.toNat by have := cut_from xs i.toNat; rw [← ei] at this; exact this]
    exact (da.drop _).keep (Keep.new np)
end Rw

/-! ### a tuple turned round: t[::-1] -/
namespace Rw
open PySem PySem.Spec PyProof.Rows L2 HT
section
variable {prog : Program} {w : World} {A : Around} {E : Value → Shared → Prop} {s : Shared}
theorem back_adjust (n : Nat) : Builtin.Slice.sliceAdjust none none (-1) (n : Int) = ((n : Int) - 1, -1) := by
  unfold Builtin.Slice.sliceAdjust
  simp
theorem back_places (n : Nat) : Builtin.Slice.slicePlaces ((n : Int) - 1) (-1) (-1) = n := by
  unfold Builtin.Slice.slicePlaces
  simp
  try omega
theorem back_applied {sl : Addr} {vk : Value} {n : Nat} {Q : Int × Int × Nat → Shared → Prop} (hs : s.heap.IsSliceOf sl .none .none vk) (pk : IsPart vk (some (-1))) (h : Q ((n : Int) - 1, -1, n) s) : wpAny (model prog w) A (Builtin.Slice.sliceApplied (.ref sl) (pure (n : Int))) Q E s := by
  obtain ⟨o, g1, g2, g3⟩ := hs
  unfold Builtin.Slice.sliceApplied
  unfold Builtin.Slice.sliceFields
  refine wpAny_bind (wpAny_bind (wpAny_field g1 g3 (x := .none) rfl (wpAny_bind (wpAny_field g1 g3 (x := .none) rfl (wpAny_bind (wpAny_field g1 g3 (x := vk) rfl (wpAny_pure (wpAny_bind (slicePart_ pk ?_)))))))))
  show wpAny _ _ (if ((-1 : Int) == 0) = true then _ else _) _ _ s
  rw [if_neg (show ¬ ((-1 : Int) == 0) = true by decide)]
  refine wpAny_bind (slicePart_none (wpAny_bind (slicePart_none (wpAny_bind (wpAny_pure ?_)))))
  show wpAny _ _ (match Builtin.Slice.sliceAdjust none none (-1) (n : Int) with | (lo, hi) => pure (lo, (-1 : Int), Builtin.Slice.slicePlaces lo hi (-1))) _ _ s
  rw [back_adjust n]
  show wpAny _ _ (pure ((n : Int) - 1, (-1 : Int), Builtin.Slice.slicePlaces ((n : Int) - 1) (-1) (-1))) _ _ s
  rw [back_places n]
  exact wpAny_pure h
theorem fm_same {α β : Type} {f g : α → Option β} : ∀ l : List α, (∀ x ∈ l, f x = g x) → l.filterMap f = l.filterMap g
  | [], _ => rfl
  | x :: l, h => by
    rw [List.filterMap_cons, List.filterMap_cons, h x List.mem_cons_self, fm_same l fun y m => h y (List.mem_cons_of_mem _ m)]
theorem back_pick (xs : Array Value) : ((List.range xs.size).filterMap fun (m : Nat) => xs[(((xs.size : Nat) : Int) - 1 + (m : Int) * (-1)).toNat]?).toArray = xs.toList.reverse.toArray := by
  congr 1
  have e : ∀ m ∈ List.range xs.size, xs[(((xs.size : Nat) : Int) - 1 + (m : Int) * (-1)).toNat]? = xs[xs.size - 1 - m]? := fun m hm => by
    have := List.mem_range.mp hm
    congr 1
    omega
  rw [fm_same _ e]
  have k := PySem.W.krv_pick xs
  have b := PySem.W.krv_range xs.size
  have a := PySem.W.krv_all xs
  rw [← a, ← List.filterMap_reverse, ← b, List.filterMap_map]
  rfl
theorem back_item {t sl : Addr} {items : Array Value} {vk : Value} {Q : Value → Shared → Prop} (ht : IsTup s.heap t items) (hs : s.heap.IsSliceOf sl .none .none vk) (pk : IsPart vk (some (-1)))
    (h : Q (.ref s.heap.objs.size) { s with heap := s.heap.push { cls := .type "tuple", data := .seq items.toList.reverse.toArray } }) (hsz : items.size ≤ sizeLine) : wpAny (model prog w) A (getItem (.ref t) (.ref sl)) Q E s := by
  have big : sizeOk (.seq items.toList.reverse.toArray) := by
    show items.toList.reverse.toArray.size ≤ sizeLine
    simpa using hsz
  obtain ⟨o, g1, g2, g3⟩ := id hs
  have ty : s.TypeIs (.ref sl) "slice" := ⟨o, g1, g2⟩
  unfold getItem
  (try with_reducible refine wpAny_holding ?_); (first | refine wpAny_bind (wpAny_pure ?_) | skip)
  refine wpAny_bind (wpAny_sequenceKey ht.typeIs (by decide) (wpAny_bind (wpAny_callSpecial?_slot (name := Str.ofString "__getitem__") ht.typeIs PyProof.Rows.slot_tuple_getitem (wpAny_call_entry PyProof.Rows.slot_tuple_getitem ht.typeIs entry_tuple_getitem ?_ (args_tuple_getitem _ _)))))
  show wpAny (model prog w) _ (Builtin.Tuple.tupleItemsOf (.ref t) >>= _) _ _ s
  refine wpAny_bind (tupleItemsOf_ ht (wpAny_bind (wpAny_typeOf ty ?_)))
  rw [if_pos (show (Value.type "slice" == Value.type "slice") = true by decide)]
  refine wpAny_bind (back_applied hs pk ?_)
  show wpAny _ _ (if ((((items.size : Nat) : Int) - 1 == 0 && (-1 : Int) == 1) && items.size == items.size) = true then _ else _) _ _ s
  rw [if_neg (by rw [show ((-1 : Int) == 1) = false by decide, Bool.and_false, Bool.false_and]; exact Bool.false_ne_true), back_pick]
  first
    | exact wpAny_bind (m := Builtin.Tuple.tupleExact _) (wpAny_newObj_type (wpAny_pure ⟨_, rfl, wpAny_pure h⟩) big)
    | exact wpAny_bind (m := Builtin.Tuple.tupleExact _) (wpAny_newObj_type (wpAny_bind (wpAny_pure (wpAny_pure ⟨_, rfl, wpAny_pure h⟩))) big)
    | exact wpAny_bind (wpAny_bind (m := Builtin.Tuple.tupleExact _) (wpAny_newObj_type (wpAny_pure (wpAny_pure ⟨_, rfl, wpAny_pure h⟩)) big))
    | exact wpAny_bind (wpAny_bind (m := Builtin.Tuple.tupleExact _) (wpAny_newObj_type (wpAny_pure ⟨_, rfl, wpAny_pure h⟩) big))
end
def tRevT (K : PySem.W.Frag) (te : TE) : TE := fun σ H Q => te σ H fun x H1 => ∃ a xs, x = .ref a ∧ SqT K H1 a xs ∧ ∀ p, H1 p = none → Q (.ref p) (upd H1 p (.tup xs.reverse))
theorem pe_revT {X : Cx} {e : Expr} {te : TE} {k : Nat} {p1 p2 p3 pos : Pos} (he : PE X e te) : PE X (.Subscript e (.Slice none none (some (.UnaryOp .USub (.Constant (.int 1) k p1) p2)) p3) pos) (tRevT X.K te) := by
  refine ⟨fun pn s σ H Q I h0 => Subscript_ (thn (he.run pn s σ H _ I h0) fun v s1 ⟨x, H1, I1, r1, q1⟩ => ?_)⟩
  obtain ⟨a, xs, rfl, hx, q⟩ := q1
  cases r1
  have st : PO X (some (.UnaryOp .USub (.Constant (.int 1) k p1) p2)) (tPart (tUn (rU fun i => .int (-i)) (tC (.int 1)))) := po_some (pe_un un_neg pe_int)
  refine wpAny_Slice (thn (po_none.run pn s1 σ H1 (fun o H2 => o = none ∧ H2 = H1) I1 ⟨rfl, rfl⟩) fun vl s2 ⟨l, H2, I2, pl, el, e2⟩ => ?_)
  subst el e2
  refine thn (po_none.run pn s2 σ H2 (fun o H3 => o = none ∧ H3 = H2) I2 ⟨rfl, rfl⟩) fun vu s3 ⟨u, H3, I3, pu, eu, e3⟩ => ?_
  subst eu e3
  refine thn (st.run pn s3 σ H3 (fun o H4 => o = some (-1) ∧ H4 = H3) I3 ⟨1, rfl, -1, rfl, rfl, rfl⟩) fun vs s4 ⟨o, H4, I4, pk, eo, e4⟩ => ?_
  subst eo e4
  cases pl
  cases pu
  have I5 : Inv X pn σ H4 { s4 with heap := s4.heap.push { cls := .type "slice", data := .fields #[.none, .none, vs] } } := I4.kept (t' := s4.toks) fun b ob q => Heap.get?_push_of_some _ q
  obtain ⟨its, r, ht, hz⟩ := I5.tuple hx
  have ln := r.length
  show wpAny (model X.prog X.w) X.A (subscriptTail e (.Slice none none (some (.UnaryOp .USub (.Constant (.int 1) k p1) p2)) p3) (.ref a) (.ref s4.heap.objs.size)) (EP X pn σ Q) X.xe { s4 with heap := s4.heap.push { cls := .type "slice", data := .fields #[.none, .none, vs] } }
  refine tail_any (ops := [.ref a, .ref s4.heap.objs.size]) ht.typeIs (PyProof.Rows.slot_tuple_getitem.lookup) ?_ (by with_unfolding_all rfl)
  refine back_item ht (Heap.IsSliceOf.new _ .none .none vs) pk ?_ (by rw [List.size_toArray]; omega)
  refine ⟨.ref _, _, I5.laid (t' := s4.toks) (o := .tup xs.reverse) (fun b ob q => Heap.get?_push_of_some _ q) (Nat.le_refl _) ?_, rfl, q _ (I5.hok.fresh (Nat.le_refl _))⟩
  exact ⟨by rw [List.length_reverse]; exact hz, _, r.reverse, IsTup.new _ _⟩
end Rw

namespace Rw
open PySem PySem.Spec PyProof.Rows L2
/-! the deck of great cells' digits, a mixed number and a count (at most b) -/
structure Dk (H : Hp) (D G : Addr) (b : Int) : Prop where
  ex : ∃ (rs : List Int) (wh c : Int), H D = some (.lst [.ref G, .int wh, .int c]) ∧ H G = some (.lst (rs.map V.int)) ∧ rs.length ≤ 100 ∧ (∀ r ∈ rs, 0 ≤ r) ∧ 0 ≤ wh ∧ wh < 2305843009213693951 ∧ 0 ≤ c ∧ c ≤ b
  ne : D ≠ G
theorem Dk.mono {H : Hp} {D G : Addr} {b b' : Int} (x : Dk H D G b) (h : b ≤ b') : Dk H D G b' := by
  obtain ⟨⟨rs, wh, c, e1, e2, e3, e4, e5, e6, e7, e8⟩, n⟩ := x
  exact ⟨⟨rs, wh, c, e1, e2, e3, e4, e5, e6, e7, by omega⟩, n⟩
theorem Dk.keep {H H' : Hp} {D G : Addr} {b : Int} (x : Dk H D G b) (k : Keep [] H H') : Dk H' D G b := by
  obtain ⟨⟨rs, wh, c, e1, e2, r⟩, n⟩ := x
  exact ⟨⟨rs, wh, c, k _ _ e1 List.not_mem_nil, k _ _ e2 List.not_mem_nil, r⟩, n⟩
theorem Dk.other {H : Hp} {D G p : Addr} {b : Int} {o : HO} (x : Dk H D G b) (h1 : p ≠ D) (h2 : p ≠ G) : Dk (upd H p o) D G b := by
  obtain ⟨⟨rs, wh, c, e1, e2, r⟩, n⟩ := x
  exact ⟨⟨rs, wh, c, by rw [upd_ne h1.symm]; exact e1, by rw [upd_ne h2.symm]; exact e2, r⟩, n⟩
theorem Dk.nes {H : Hp} {D G p : Addr} {b : Int} (x : Dk H D G b) (n : H p = none) : p ≠ D ∧ p ≠ G := by
  obtain ⟨⟨rs, wh, c, e1, e2, r⟩, _⟩ := x
  exact ⟨(ne_of_none e1 n).symm, (ne_of_none e2 n).symm⟩
theorem Dk.new {H : Hp} {D G p : Addr} {b : Int} {o : HO} (x : Dk H D G b) (n : H p = none) : Dk (upd H p o) D G b := x.other (x.nes n).1 (x.nes n).2
theorem Dk.tr {H : Hp} {D G : Addr} {b : Int} (x : Dk H D G b) : Tr [D, G] H := fun a m => by
  obtain ⟨⟨rs, wh, c, e1, e2, r⟩, _⟩ := x
  rcases List.mem_cons.mp m with rfl | m
  · exact ⟨_, e1⟩
  · rw [List.mem_singleton.mp m]; exact ⟨_, e2⟩
structure Sg (av : List Addr) (D G : Addr) (H J : Hp) (b : Int) : Prop where
  k : Keep [D, G] H J
  dk : Dk J D G b
  tr : Tr av J
theorem Sg.new {av : List Addr} {D G p : Addr} {H J : Hp} {b : Int} {o : HO} (s : Sg av D G H J b) (n : J p = none) : Sg av D G H (upd J p o) b := ⟨s.k.trans (Keep.new n), s.dk.new n, s.tr.upd⟩
theorem Sg.go {av : List Addr} {D G : Addr} {H J J' : Hp} {b b' : Int} (s : Sg av D G H J b) (k : Keep [D, G] J J') (d : Dk J' D G b') : Sg av D G H J' b' := ⟨s.k.trans k, d, s.tr.kp k d.tr⟩
theorem Sg.kp {av : List Addr} {D G : Addr} {H J J' : Hp} {b : Int} (s : Sg av D G H J b) (k : Keep [] J J') : Sg av D G H J' b := s.go k.of (s.dk.keep k)
theorem Sg.free {av : List Addr} {D G p : Addr} {H J : Hp} {b : Int} (s : Sg av D G H J b) (n : J p = none) : H p = none := s.k.fre s.dk.tr n
theorem Sg.mono {av : List Addr} {D G : Addr} {H J : Hp} {b b' : Int} (s : Sg av D G H J b) (h : b ≤ b') : Sg av D G H J b' := ⟨s.k, s.dk.mono h, s.tr⟩
theorem two_in {D G : Addr} {av : List Addr} (m1 : D ∈ av) (m2 : G ∈ av) : ∀ a ∈ [D, G], a ∈ av := fun a m => by
  rcases List.mem_cons.mp m with rfl | m
  · exact m1
  · rw [List.mem_singleton.mp m]; exact m2
theorem not2 {D G p : Addr} (h : p ≠ D ∧ p ≠ G) : p ∉ [D, G] := fun m => by
  rcases List.mem_cons.mp m with m | m
  · exact h.1 m
  · exact h.2 (List.mem_singleton.mp m)
end Rw

namespace Rw
open PySem PySem.Spec PyProof.Rows L2
theorem pick_in {P : Int → Prop} {xs : List Int} (h : ∀ x ∈ xs, P x) {k : Int} (k0 : 0 ≤ k) (k1 : k < xs.length) : ∃ j, atI (xs.map V.int) k = some (.int j) ∧ P j := by
  have hk : k.toNat < xs.length := by omega
  refine ⟨xs[k.toNat], atI_of k0 ?_, h _ (List.getElem_mem hk)⟩
  rw [List.getElem?_map, List.getElem?_eq_getElem hk]; rfl
theorem con_up {n : Int} {ps : List Pi} (h : ∀ r : Int, 1 ≤ r → r < n → ∃ p ∈ ps, p.y = r ∧ 0 ≤ p.x ∧ p.x < r) : Con n.toNat (edges ps) := by
  intro S hE
  have key : ∀ k : Nat, ∀ a : Nat, a ≤ k → a < n.toNat → S a = S 0 := by
    intro k
    induction k with
    | zero => intro a h0 _; rw [show a = 0 by omega]
    | succ k ih =>
      intro a ha hn
      by_cases z : a ≤ k
      · exact ih a z hn
      · obtain ⟨p, hp, e1, e2, e3⟩ := h (a : Int) (by omega) (by omega)
        have := hE (p.x.toNat, p.y.toNat) (List.mem_map.mpr ⟨p, hp, rfl⟩)
        have z1 : S p.x.toNat = S p.y.toNat := this
        rw [show a = p.y.toNat by omega, ← z1]
        exact ih _ (by omega) (by omega)
  exact fun a ha => key a a (Nat.le_refl _) ha
end Rw

namespace Rw
open PySem PySem.Spec PyProof.Rows L2
/-! ### the program's own defs -/
section
variable {P : Program} {w : World} {K : PySem.W.Frag} {mg : Str → Option Value} {base : Heap}
abbrev sPlaceP : Stmt := topS 10
end
def isPlace (n : Int) (ps : List PyData) : PyData → Bool
  | .tuple [x] => within x 0 (n - 1)
  | .tuple [.int p, y] => within (.int p) 0 ((ps.length : Int) - 1) && within y 1 (lenOf (ps.getD p.toNat .none) - 1)
  | _ => false
section
variable {P : Program} {w : World} {K : PySem.W.Frag} {mg : Str → Option Value} {base : Heap}
theorem scPlaceP : FnScope ["house", "thing", "rooms", "pipes"] ["house", "thing"] (defScope sPlaceP) := ⟨rfl, rfl, rfl, by decide +kernel, rfl, by decide +kernel, by decide +kernel⟩
def spPlaceP : Sp := fun vs H Q _ => ∃ (h v : V) (n : Int) (ps : List PyData) (d : PyData) (a1 a2 : List Addr), vs = [h, v] ∧ Dt a1 H h (houseD n ps) ∧ PipesOk ps ∧ Dt a2 H v d ∧ Q (.bl (isPlace n ps d)) H
/-! the length of the pipe at a place of the list -/
theorem pipe_at {a1 : List Addr} {H : Hp} {xs : List V} {ps : List PyData} (hs : Dts a1 H xs ps) (hp : PipesOk ps) {i : Nat} (hi : i < ps.length) :
    ∃ pa ys, xs[i]? = some (.ref pa) ∧ H pa = some (.tup ys) ∧ ys[2]? = some (.int (lenOf (ps.getD i .none))) := by
  have e : ps[i]? = some ps[i] := List.getElem?_eq_getElem hi
  obtain ⟨v, ev, dv⟩ := hs.get i e
  obtain ⟨a, b, l, r, ep⟩ := hp ps[i] (List.getElem_mem hi)
  have eg : ps.getD i .none = .tuple (a :: b :: .int l :: r) := by
    rw [List.getD_eq_getElem?_getD, e, ← ep]; rfl
  rw [ep] at dv
  cases dv with
  | tup na ea da =>
    obtain ⟨u, eu, du⟩ := da.get 2 (d := .int l) rfl
    cases du
    refine ⟨_, _, ev, ea, ?_⟩
    rw [eg]; exact eu
theorem ok_placeP (h : Has K mg "is_place" sPlaceP) (B : Blt mg) (CT : Can P w K mg base "is_tuple_of" ["thing", "many"] 1 spTupOf) (CW : Can P w K mg base "is_within" ["thing", "low", "high"] 2 spWithin) :
    Can P w K mg base "is_place" ["house", "thing"] 3 spPlaceP := by
  obtain ⟨f, fd, F, g⟩ := h
  refine ⟨f, fd, F.ok (k := 2) scPlaceP (fun vs H Q E h => ?_) (fun cdv A outer s H vs Q E hr h => ?_), g, F.kp, F.binds fun _ _ _ _ _ _ us hl => match us, hl with | [_, _], _ => rfl⟩
  · obtain ⟨h, v, n, ps, d, a1, a2, rfl, _⟩ := h
    rfl
  · obtain ⟨h, v, n, ps, d, a1, a2, rfl, hh, hp, hd, q⟩ := h
    refine ⟨_, pss_cons (ps_asg (pv 0) (pg_tup (by rfl) (pgs_cons (pg_name (i := 2) scPlaceP.nd rfl (.inl rfl)) (pgs_cons (pg_name (i := 3) scPlaceP.nd rfl (.inl rfl)) pgs_nil))))
      (pss_cons (ps_if (pt_val (pe_can CT (hr.mono (by decide)) (by rfl) (pa_cons (pv 1) (pa_cons pe_int pa_nil))))
        (pss_one (ps_ret (pe_can CW hr (by rfl) (pa_cons (pe_ix ix_tup (pv 1) pe_int (fun _ _ => rfl)) (pa_cons pe_int (pa_cons (pe_op op_sub (pv 2) pe_int) pa_nil)))))) pss_nil)
      (pss_cons (ps_if (PW.pt (pw_or (pt_not (pt_val (pe_can CT (hr.mono (by decide)) (by rfl) (pa_cons (pv 1) (pa_cons pe_int pa_nil)))))
          (pw_or1 (pt_not (pt_val (pe_can CW hr (by rfl) (pa_cons (pe_ix ix_tup (pv 1) pe_int (fun _ _ => rfl)) (pa_cons pe_int (pa_cons (pe_op op_sub (pe_callB call_len_seq (by rfl) B.len_ PySem.boot_len (pa_cons (pv 3) pa_nil)) pe_int) pa_nil)))))))))
        (pss_one (ps_ret pe_bl)) pss_nil)
      (pss_one (ps_ret (pe_can CW hr (by rfl) (pa_cons (pe_ix ix_tup (pv 1) pe_int (fun _ _ => rfl)) (pa_cons pe_int (pa_cons (pe_op op_sub (pe_ix ix_tup (pe_ix ix_tup (pv 3) (pe_ix ix_tup (pv 1) pe_int (fun _ _ => rfl)) (fun _ _ => rfl)) pe_int (fun _ _ => rfl)) pe_int) pa_nil)))))))), ?_⟩
    cases hh with
    | tup na ea da =>
      rename_i ah xh
      cases da with
      | cons d1 da =>
        cases d1
        cases da with
        | cons d2 da =>
          cases da
          cases d2 with
          | tup nb eb db =>
            rename_i ap xp
            refine ⟨.ref ah, rfl, ah, [.int n, .ref ap], rfl, SqT.of ea, rfl, _, _, rfl, _, [], rfl, rfl, ?_⟩
            refine ⟨v, rfl, v, d, a2, 1, rfl, hd, _, rfl, ite2 (fun e => ?_) (fun e => ?_)⟩
            · -- one part
              cases hd <;> first | (cases e; done) | (cases hf; done) | skip
              rename_i a xs ds na' ea' hs
              have e1 : (ds.length : Int) = 1 := of_decide_eq_true e
              obtain ⟨x, rfl⟩ : ∃ x, ds = [x] := by
                cases ds with
                | nil => exact absurd e1 (by decide)
                | cons x r => cases r with
                  | nil => exact ⟨x, rfl⟩
                  | cons y r => exact absurd e1 (by rw [List.length_cons, List.length_cons]; omega)
              obtain ⟨y, ey, dy⟩ := hs.get 0 (d := x) rfl
              refine ⟨.ref a, rfl, a, xs, 0, y, rfl, rfl, SqT.of ea', atI_nat (j := 0) ey, .int n, rfl, n, 1, rfl, rfl, y, x, a2, 0, n - 1, rfl, dy, ?_⟩
              exact q
            · refine ⟨v, rfl, v, d, a2, 2, rfl, hd, _, rfl, ite2 (fun e2 => ?_) (fun e2 => ?_)⟩
              · have z : false = isPlace n ps d := by
                  cases d <;> first | rfl | skip
                  rename_i ds
                  cases ds with
                  | nil => rfl
                  | cons x r => cases r with
                    | nil => exact absurd rfl e
                    | cons y r => cases r with
                      | nil => cases e2
                      | cons _ _ => cases x <;> rfl
                rw [← z] at q; exact q
              · have e2' : tupOf d 2 = true := by
                  cases hq : tupOf d 2 with
                  | true => rfl
                  | false => rw [hq] at e2; exact absurd rfl e2
                cases hd <;> first | (cases e2'; done) | (cases hf; done) | skip
                rename_i a xs ds na' ea' hs
                have e1 : (ds.length : Int) = 2 := of_decide_eq_true e2'
                obtain ⟨x, y, rfl⟩ : ∃ x y, ds = [x, y] := by
                  match ds, e1 with
                  | [x, y], _ => exact ⟨x, y, rfl⟩
                  | [], e => exact absurd e (by decide)
                  | [_], e => simp at e
                  | _ :: _ :: _ :: _, e => rw [List.length_cons, List.length_cons, List.length_cons] at e; omega
                obtain ⟨vx, ex, dx⟩ := hs.get 0 (d := x) rfl
                obtain ⟨vy, ey, dy⟩ := hs.get 1 (d := y) rfl
                refine ⟨.ref a, rfl, a, xs, 0, vx, rfl, rfl, SqT.of ea', atI_nat (j := 0) ex, .ref ap, rfl, ap, xp, rfl, .inr (SqT.of eb), _, 1, rfl, rfl, vx, x, a2, 0, _, rfl, dx, _, rfl, ite2 (fun e3 => ?_) (fun e3 => ?_)⟩
                · have z : false = isPlace n ps (.tuple [x, y]) := by
                    cases x <;> first | rfl | skip
                    rename_i i
                    rw [db.len] at e3
                    show _ = (within (.int i) 0 ((ps.length : Int) - 1) && _)
                    rw [(Bool.not_eq_true' _).mp e3]; rfl
                  rw [← z] at q; exact q
                · rw [db.len] at e3
                  have e4 : within x 0 ((ps.length : Int) - 1) = true := by
                    cases hq : within x 0 ((ps.length : Int) - 1) with
                    | true => rfl
                    | false => rw [hq] at e3; exact absurd rfl e3
                  cases dx <;> first | (cases e4; done) | skip
                  rename_i i
                  have b1 : 0 ≤ i ∧ i ≤ (ps.length : Int) - 1 := by
                    have := (Bool.and_eq_true _ _).mp (show (decide (0 ≤ i) && decide (i ≤ (ps.length : Int) - 1)) = true from e4)
                    exact ⟨of_decide_eq_true this.1, of_decide_eq_true this.2⟩
                  obtain ⟨pa, ys, g1, g2, g3⟩ := pipe_at db hp (i := i.toNat) (by omega)
                  have ei : ((i.toNat : Nat) : Int) = i := by omega
                  refine ⟨.ref a, rfl, a, xs, 1, vy, rfl, rfl, SqT.of ea', atI_nat (j := 1) ey, .ref ap, rfl, .ref a, rfl, a, xs, 0, .int i, rfl, rfl, SqT.of ea', atI_nat (j := 0) ex, ap, xp, i, .ref pa, rfl, rfl, SqT.of eb, ?_, pa, ys, 2, _, rfl, rfl, SqT.of g2, atI_nat (j := 2) g3, _, 1, rfl, rfl, vy, y, a2, 1, _, rfl, dy, ?_⟩
                  · rw [← ei]; exact atI_nat g1
                  · have z : within y 1 (lenOf (ps.getD i.toNat .none) - 1) = isPlace n ps (.tuple [.int i, y]) := by
                      show _ = (within (.int i) 0 ((ps.length : Int) - 1) && within y 1 (lenOf (ps.getD i.toNat .none) - 1))
                      rw [e4, Bool.true_and]
                    rw [← z] at q; exact q
end
theorem pis_ok (ps : List Pi) : PipesOk (ps.map Pi.dat) := fun p hp => by
  obtain ⟨q, _, rfl⟩ := List.mem_map.mp hp
  exact ⟨_, _, _, _, rfl⟩
theorem ok_isPlace {n : Int} {ps : List Pi} {p : Pl} (h : okP n ps p) : isPlace n (ps.map Pi.dat) (tupI p) = true := by
  rcases ok_cases h with ⟨r, rfl, r0, r1⟩ | ⟨i, a, rfl, h0, h1, a0, a1⟩
  · show (decide (0 ≤ r) && decide (r ≤ n - 1)) = true
    rw [decide_eq_true r0, decide_eq_true (show r ≤ n - 1 by omega)]; rfl
  · have el : lenOf ((ps.map Pi.dat).getD i.toNat .none) = (pr ps i).l := by
      rw [List.getD_eq_getElem?_getD, List.getElem?_map, (pr_mem h0 h1).2]; rfl
    show ((decide (0 ≤ i) && decide (i ≤ ((ps.map Pi.dat).length : Int) - 1)) && (decide (1 ≤ a) && decide (a ≤ lenOf ((ps.map Pi.dat).getD i.toNat .none) - 1))) = true
    rw [el, List.length_map, decide_eq_true h0, decide_eq_true (show i ≤ (ps.length : Int) - 1 by omega), decide_eq_true a0, decide_eq_true a1]; rfl
end Rw

namespace Rw
open PySem PySem.Spec PyProof.Rows L2 TL
/-! ### numbers in figures -/
abbrev tx (i : Int) : Str := Str.ofString (toString i)
theorem tx_tl {i : Int} (h : 0 ≤ i) : tl (tx i) = numL i.toNat := by
  have e : i = ((i.toNat : Nat) : Int) := by omega
  have z := tl_num i.toNat
  rw [← e] at z
  exact z
theorem tx_len {i : Int} (h : 0 ≤ i) {k : Nat} (hk : 0 < k) (hi : i < ((10 ^ k : Nat) : Int)) : (tx i).length ≤ k := by
  rw [len_tl, tx_tl h]
  exact numL_len hk (by omega)
theorem tx_pos {i : Int} (h : 0 ≤ i) : 1 ≤ (tx i).length := by
  rw [len_tl, tx_tl h]
  exact List.length_pos_iff.mpr (numL_ne _)
theorem tx_free {i : Int} (h : 0 ≤ i) {s : Nat} (hs : s < 48 ∨ 57 < s) : s ∉ tl (tx i) := by
  rw [tx_tl h]; exact numL_free hs
theorem numL_head : ∀ (k n : Nat), n ≤ k → 1 ≤ n → ∃ c r, numL n = c :: r ∧ c ≠ 48
  | 0, n, h, h1 => by omega
  | k + 1, n, h, h1 => by
    by_cases c : n < 10
    · exact ⟨48 + n, [], numL_lt c, by omega⟩
    · obtain ⟨c', r, e, ne⟩ := numL_head k (n / 10) (by omega) (by omega)
      exact ⟨c', r ++ [48 + n % 10], by rw [numL_step (by omega), e]; rfl, ne⟩
theorem tx_head {i : Int} (h : 0 ≤ i) : ∃ c r, tl (tx i) = c :: r ∧ (c = 48 → r = []) := by
  rw [tx_tl h]
  by_cases z : i.toNat = 0
  · rw [z]
    exact ⟨48, [], numL_lt (by decide), fun _ => rfl⟩
  · obtain ⟨c, r, e, ne⟩ := numL_head i.toNat i.toNat (Nat.le_refl _) (by omega)
    exact ⟨c, r, e, fun z => absurd z ne⟩
theorem tx_int {i : Int} (h : 0 ≤ i) (hl : (tx i).length ≤ 640) : intText? (tx i) = some i := by
  have e : i = ((i.toNat : Nat) : Int) := by omega
  have z := int_num (n := i.toNat) (by rw [← tx_tl h, ← len_tl]; omega)
  rw [← e] at z
  exact z
theorem tx_dig {i : Int} (h : 0 ≤ i) : ∀ c ∈ tl (tx i), 48 ≤ c ∧ c ≤ 57 := by
  rw [tx_tl h]
  intro c hc
  by_cases z : c < 48 ∨ 57 < c
  · exact absurd hc (numL_free z)
  · omega
theorem tx_log {i : Int} (h : 0 ≤ i) (hi : i ≤ 1000000000000000) : i.natAbs.log2 < 1920 := by
  have e : i.natAbs < 2 ^ 60 := by have : (2 : Nat) ^ 60 = 1152921504606846976 := by decide
                                   omega
  by_cases z : i.natAbs = 0
  · rw [z]; decide
  · exact Nat.lt_of_lt_of_le ((Nat.log2_lt z).mpr e) (by decide)
/-! texts put together -/
theorem join_one (y a : Str) : Txt.join y [a] = a := by
  rw [join_eq]
  refine ext_tl ?_
  rw [tl_join]; rfl
theorem join_two (y a b : Str) : Txt.join y [a, b] = a ++ y ++ b := by
  rw [join_eq]
  refine ext_tl ?_
  rw [tl_join, tl_append, tl_append]
  simp [joinL]
theorem len_app (a b : Str) : (a ++ b).length = a.length + b.length := by rw [len_tl, len_tl, len_tl, tl_append, List.length_append]
theorem app_assoc (a b c : Str) : a ++ b ++ c = a ++ (b ++ c) := ext_tl (by rw [tl_append, tl_append, tl_append, tl_append, List.append_assoc])
abbrev plusT : Str := Str.ofString "+"
abbrev blankT : Str := Str.ofString " "
abbrev crossT : Str := Str.ofString "x"
theorem plus_tl : tl plusT = [43] := by decide +kernel
theorem blank_tl : tl blankT = [32] := by decide +kernel
theorem cross_tl : tl crossT = [120] := by decide +kernel
def ptx : List Int → Str
  | [i, a] => tx i ++ plusT ++ tx a
  | [r] => tx r
  | _ => Str.empty
def okT : List Int → Prop
  | [i, a] => 0 ≤ i ∧ i < 1000000000000000 ∧ 1 ≤ a ∧ a < 1000000000000000
  | [r] => 0 ≤ r ∧ r < 1000000000000000
  | _ => False
theorem okT_cases {p : List Int} (h : okT p) : (∃ r, p = [r] ∧ 0 ≤ r ∧ r < 1000000000000000) ∨ ∃ i a, p = [i, a] ∧ 0 ≤ i ∧ i < 1000000000000000 ∧ 1 ≤ a ∧ a < 1000000000000000 := by
  match p, h with
  | [r], h => exact .inl ⟨r, rfl, h⟩
  | [i, a], h => exact .inr ⟨i, a, rfl, h⟩
theorem len15 {i : Int} (h : 0 ≤ i) (hi : i < 1000000000000000) : (tx i).length ≤ 15 := tx_len h (by decide) (by have : ((10 ^ 15 : Nat) : Int) = 1000000000000000 := by decide
                                                                                                                 omega)
theorem ptx_len {p : List Int} (h : okT p) : (ptx p).length ≤ 31 := by
  rcases okT_cases h with ⟨r, rfl, r0, r1⟩ | ⟨i, a, rfl, i0, i1, a0, a1⟩
  · have := len15 r0 r1
    show (tx r).length ≤ 31; omega
  · have h1 := len15 i0 i1
    have h2 := len15 (show 0 ≤ a by omega) a1
    have h3 : plusT.length = 1 := by decide +kernel
    show (tx i ++ plusT ++ tx a).length ≤ 31
    rw [len_app, len_app]; omega
theorem ptx_free {p : List Int} (h : okT p) : 32 ∉ tl (ptx p) := by
  rcases okT_cases h with ⟨r, rfl, r0, r1⟩ | ⟨i, a, rfl, i0, i1, a0, a1⟩
  · exact tx_free r0 (by decide)
  · show 32 ∉ tl (tx i ++ plusT ++ tx a)
    rw [tl_append, tl_append, plus_tl]
    intro m
    rcases List.mem_append.mp m with m | m
    · rcases List.mem_append.mp m with m | m
      · exact tx_free i0 (by decide) m
      · simp at m
    · exact tx_free (show 0 ≤ a by omega) (by decide) m
theorem cr_repr_str {X : Cx} : CallR X (.builtin "repr") (fun xs H Q => ∃ a, xs = [.str a] ∧ (reprText a).length ≤ sizeLine ∧ Q (.str (reprText a)) H) := by
  intro pins s σ H args vals Q I r ask
  obtain ⟨a, rfl, hz, q⟩ := ask
  obtain ⟨u, rfl, t, rfl⟩ := vals1 r
  exact PySem.P.repr_of_str ⟨.str _, H, I.tok _, ⟨_, rfl⟩, q⟩ hz
end Rw

namespace Rw
open PySem PySem.Spec PyProof.Rows L2 TL
/-- over a text's signs -/
theorem lc_txt {x : Str} {g : TG} {tt : TT} {te : TE} {vs : List Nat} {σ : L2.St} {H1 : Hp} {D : Addr} {Qd : Hp → Prop} (Pv : Nat → Hp → Prop) (h0 : Pv 0 (upd H1 D (.lst [])))
    (hs : ∀ i c H, (tl x)[i]? = some c → Pv i H → g (.str ⟨#[c]⟩) (wipe σ vs) H fun σ2 H2 => wipe σ2 vs = wipe σ vs ∧ tt σ2 H2 fun b H3 =>
      if b = true then te σ2 H3 fun y H4 => ∃ acc, H4 D = some (.lst acc) ∧ acc.length < sizeLine ∧ Pv (i + 1) (upd H4 D (.lst (acc ++ [y]))) else Pv (i + 1) H3) (hd : ∀ H, Pv (tl x).length H → Qd H) :
    ∃ W : Nat → Nat → Hp → Prop, (∃ m, W 0 m (upd H1 D (.lst []))) ∧ ∀ i m H, W i m H →
      ((Its x).stop i H ∧ Qd H) ∨ ((Its x).go i H ∧ ∃ Nx : Hp → Prop, (∀ H', Nx H' → ∃ m', m' < m ∧ W (i + 1) m' H') ∧ ∀ v H', (Its x).yld i H v H' → g v (wipe σ vs) H' fun σ2 H2 => wipe σ2 vs = wipe σ vs ∧ tt σ2 H2 fun b H3 =>
        if b = true then te σ2 H3 fun y H4 => ∃ acc, H4 D = some (.lst acc) ∧ acc.length < sizeLine ∧ Nx (upd H4 D (.lst (acc ++ [y]))) else Nx H3) := by
  refine ⟨fun i m H => m + i = (tl x).length ∧ Pv i H, ⟨(tl x).length, rfl, h0⟩, fun i m H w => ?_⟩
  obtain ⟨wm, p⟩ := w
  have sz : x.cps.size = (tl x).length := Array.length_toList.symm
  match m, wm with
  | 0, wm =>
    have e : i = (tl x).length := by omega
    exact .inl ⟨show x.cps.size ≤ i by omega, hd H (e ▸ p)⟩
  | m + 1, wm =>
    refine .inr ⟨show i < x.cps.size by omega, Pv (i + 1), fun G pG => ⟨m, Nat.lt_succ_self m, by omega, pG⟩, fun v G y => ?_⟩
    obtain ⟨rfl, c, hc, rfl⟩ := y
    exact hs i c _ (by rw [Array.getElem?_toList]; exact hc) p
abbrev figT : Str := Str.ofString "0123456789"
theorem fig_in {c : Nat} (h : 48 ≤ c ∧ c ≤ 57) : decide (c ∈ figT.cps.toList) = true := by
  have e : figT.cps.toList = [48, 49, 50, 51, 52, 53, 54, 55, 56, 57] := by decide +kernel
  rw [e]
  refine decide_eq_true ?_
  simp only [List.mem_cons, List.not_mem_nil, or_false]
  omega
end Rw

namespace Rw
open PySem PySem.Spec PyProof.Rows L2 TL
end Rw

namespace Rw
open PySem PySem.Spec PyProof.Rows L2 TL
theorem units65 {k : Nat} {A : Around} (r : Room k A) : A.units + 65 < cLine := by have := r.un; omega
def ktx (k : Int × Int) : Str := tx k.1 ++ crossT ++ tx k.2
def okK (k : Int × Int) : Prop := 0 ≤ k.1 ∧ k.1 < 1000000000000000 ∧ 0 ≤ k.2 ∧ k.2 < 1000000000000000
def rtx (l : Int) (ks : List (Int × Int)) : Str := Txt.join blankT (tx l :: ks.map ktx)
def ropeD (l : Int) (ks : List (Int × Int)) : PyData := .tuple [.int l, .tuple (ks.map prD)]
theorem emp_app (a : Str) : Str.empty ++ a = a := ext_tl (by rw [tl_append]; rfl)
theorem cross_len : crossT.length = 1 := by decide +kernel
theorem blank_len : blankT.length = 1 := by decide +kernel
theorem ktx_len {k : Int × Int} (h : okK k) : (ktx k).length ≤ 31 := by
  have h1 := len15 h.1 h.2.1
  have h2 := len15 h.2.2.1 h.2.2.2
  have := cross_len
  unfold ktx
  rw [len_app, len_app]; omega
theorem ktx_free {k : Int × Int} (h : okK k) : 32 ∉ tl (ktx k) := by
  unfold ktx
  rw [tl_append, tl_append, cross_tl]
  intro m
  rcases List.mem_append.mp m with m | m
  · rcases List.mem_append.mp m with m | m
    · exact tx_free h.1 (by decide) m
    · simp at m
  · exact tx_free h.2.2.1 (by decide) m
theorem sum_len : ∀ {ys : List Str}, (∀ y ∈ ys, y.length ≤ 31) → (ys.map (·.length)).sum ≤ 31 * ys.length
  | [], _ => Nat.le_refl _
  | y :: ys, h => by
    have h1 := h y List.mem_cons_self
    have h2 := sum_len (ys := ys) fun z m => h z (List.mem_cons_of_mem _ m)
    rw [List.map_cons, List.sum_cons, List.length_cons]; omega
theorem join_len (y : Str) : ∀ (ys : List Str), (Txt.join y ys).length ≤ (ys.map (·.length)).sum + ys.length * y.length
  | [] => by rw [join_eq, len_tl, tl_join]; exact Nat.zero_le _
  | [a] => by rw [join_one]; show a.length ≤ a.length + 0 + 1 * y.length; omega
  | a :: b :: l => by
    have ih := join_len y (b :: l)
    have e : Txt.join y (a :: b :: l) = a ++ y ++ Txt.join y (b :: l) := by
      rw [join_eq, join_eq]
      refine ext_tl ?_
      rw [tl_join, tl_append, tl_append, tl_join]
      simp [joinL]
    rw [e, len_app, len_app, List.map_cons, List.sum_cons, List.length_cons]
    have : (l.length + 1 + 1) * y.length = (l.length + 1) * y.length + y.length := by rw [Nat.succ_mul]
    rw [List.length_cons] at ih ⊢
    omega
theorem lst_step {av : List Addr} {G G2 : Hp} {W : Addr} {vs : List V} {y : V} {ds : List PyData} {d : PyData} (dv : Dts (W :: av) G vs ds) (k : Keep (W :: av) G G2) (dy : Dt (W :: av) G2 y d) : Dts (W :: av) (upd G2 W (.lst (vs ++ [y]))) (vs ++ [y]) (ds ++ [d]) :=
  ((dv.keep k).app (.cons dy .nil)).keep (Keep.put List.mem_cons_self)
theorem tup_lay (p : List Int) : PyData.canLay0 (tupI p) = true := by
  show PyData.canLay0 (.tuple (p.map .int)) = true
  simp only [PyData.canLay0, tupI_lay p]
theorem tup_depth (p : List Int) : PyData.depth (tupI p) = 1 := by
  show PyData.depth (.tuple (p.map .int)) = 1
  simp [PyData.depth, tupI_depths p]
end Rw

namespace Rw
open PySem PySem.Spec PyProof.Rows L2 TL
end Rw

namespace Rw
open PySem PySem.Spec PyProof.Rows L2 TL
def rising (lo hi : Int) : List (Int × Int) → Prop
  | [] => True
  | k :: ks => lo ≤ k.1 ∧ k.1 ≤ hi ∧ rising (k.1 + 1) hi ks
def okR (l : Int) (ks : List (Int × Int)) : Prop := 1 ≤ l ∧ l ≤ 100000000000000 ∧ rising 0 l ks ∧ (∀ k ∈ ks, 1 ≤ k.2 ∧ k.2 ≤ 1000000) ∧ ks.length ≤ 4
theorem rising_in : ∀ {ks : List (Int × Int)} {lo hi : Int}, rising lo hi ks → ∀ k ∈ ks, lo ≤ k.1 ∧ k.1 ≤ hi
  | [], _, _, _, k, m => nomatch m
  | p :: ks, lo, hi, h, k, m => by
    rcases List.mem_cons.mp m with rfl | m
    · exact ⟨h.1, h.2.1⟩
    · have := rising_in h.2.2 k m
      have := h.1
      omega
theorem okR_K {l : Int} {ks : List (Int × Int)} (h : okR l ks) : ∀ k ∈ ks, okK k := fun k m => by
  obtain ⟨l1, l2, r, s, _⟩ := h
  have h1 := rising_in r k m
  have h2 := s k m
  exact ⟨h1.1, by omega, by omega, by omega⟩
theorem drop_rest {ks : List (Int × Int)} {i : Nat} {k : Int × Int} (h : ks[i]? = some k) : ks.drop i = k :: ks.drop (i + 1) := by
  obtain ⟨hl, e⟩ := List.getElem?_eq_some_iff.mp h
  rw [List.drop_eq_getElem_cons hl, e]
theorem pr_at {H : Hp} {x : V} {k : Int × Int} (dx : Dt [] H x (prD k)) : ∃ b, x = .ref b ∧ H b = some (.tup [.int k.1, .int k.2]) := by
  obtain ⟨b, ys, rfl, _, eb, db⟩ := tup_at dx
  have hys : ys = [.int k.1, .int k.2] := Dts.unints (ns := [k.1, k.2]) db
  subst hys
  exact ⟨b, rfl, eb⟩
theorem within_yes {i lo hi : Int} (h1 : lo ≤ i) (h2 : i ≤ hi) : within (.int i) lo hi = true := by
  show (decide (lo ≤ i) && decide (i ≤ hi)) = true
  rw [decide_eq_true h1, decide_eq_true h2]; rfl
end Rw

namespace Rw
open PySem PySem.Spec PyProof.Rows L2 TL
theorem join_cons (y a b : Str) (l : List Str) : Txt.join y (a :: b :: l) = a ++ y ++ Txt.join y (b :: l) := by
  rw [join_eq, join_eq]
  refine ext_tl ?_
  rw [tl_join, tl_append, tl_append, tl_join]
  simp [joinL]
theorem join_snoc (y b : Str) : ∀ (a : Str) (l : List Str), Txt.join y (a :: (l ++ [b])) = Txt.join y (a :: l) ++ y ++ b
  | a, [] => by rw [List.nil_append, join_two, join_one]
  | a, c :: l => by
    rw [List.cons_append, join_cons, join_snoc y b c l, join_cons, app_assoc, app_assoc, app_assoc, app_assoc, app_assoc]
theorem rtx_nil (l : Int) : rtx l [] = tx l := join_one _ _
theorem rtx_snoc (l : Int) (ks : List (Int × Int)) (k : Int × Int) : rtx l (ks ++ [k]) = rtx l ks ++ blankT ++ tx k.1 ++ crossT ++ tx k.2 := by
  unfold rtx
  rw [List.map_append, List.map_cons, List.map_nil, join_snoc]
  unfold ktx
  rw [app_assoc, app_assoc, app_assoc, app_assoc, app_assoc]
def small (x : Str) : Prop := ∀ c ∈ tl x, c < 128
theorem small.app {a b : Str} (h1 : small a) (h2 : small b) : small (a ++ b) := fun c m => by
  rw [tl_append] at m
  rcases List.mem_append.mp m with m | m
  · exact h1 c m
  · exact h2 c m
theorem small_tx {i : Int} (h : 0 ≤ i) : small (tx i) := fun c m => by have := tx_dig h c m; omega
theorem small_plus : small plusT := fun c m => by rw [plus_tl] at m; rw [List.mem_singleton.mp m]; decide
theorem small_blank : small blankT := fun c m => by rw [blank_tl] at m; rw [List.mem_singleton.mp m]; decide
theorem small_cross : small crossT := fun c m => by rw [cross_tl] at m; rw [List.mem_singleton.mp m]; decide
theorem small_ptx {p : List Int} (h : okT p) : small (ptx p) := by
  rcases okT_cases h with ⟨r, rfl, r0, r1⟩ | ⟨i, a, rfl, i0, i1, a0, a1⟩
  · exact small_tx r0
  · exact ((small_tx i0).app small_plus).app (small_tx (by omega))
theorem rtx_ok0 (l : Int) (l0 : 0 ≤ l) (l1 : l < 1000000000000000) : ∀ (n : Nat) (ks : List (Int × Int)), ks.length = n → (∀ k ∈ ks, okK k) → small (rtx l ks) ∧ (rtx l ks).length ≤ 15 + 32 * n
  | 0, ks, e, _ => by
    rw [List.eq_nil_of_length_eq_zero e, rtx_nil]
    exact ⟨small_tx l0, len15 l0 l1⟩
  | n + 1, ks, e, h => by
    rcases List.eq_nil_or_concat ks with rfl | ⟨ks', k, rfl⟩
    · cases e
    · rw [List.concat_eq_append] at e h ⊢
      rw [List.length_append] at e
      obtain ⟨h1, h2⟩ := rtx_ok0 l l0 l1 n ks' (by simpa using e) fun z m => h z (List.mem_append_left _ m)
      have hk := h k (List.mem_append_right _ List.mem_cons_self)
      rw [rtx_snoc]
      have a1 := len15 hk.1 hk.2.1
      have a2 := len15 hk.2.2.1 hk.2.2.2
      have a3 := cross_len
      have a4 := blank_len
      refine ⟨(((h1.app small_blank).app (small_tx hk.1)).app small_cross).app (small_tx hk.2.2.1), ?_⟩
      rw [len_app, len_app, len_app, len_app]
      omega
theorem rtx_ok (l : Int) (ks : List (Int × Int)) (l0 : 0 ≤ l) (l1 : l < 1000000000000000) (h : ∀ k ∈ ks, okK k) : small (rtx l ks) ∧ (rtx l ks).length ≤ 15 + 32 * ks.length := rtx_ok0 l l0 l1 _ ks rfl h
theorem repr_fits {x : Str} (h : small x) (hl : x.length ≤ 1000) : (reprText x).length ≤ sizeLine :=
  Nat.le_trans (StrLaws.reprText_len x fun c m => Nat.lt_of_lt_of_le (h c m) (by decide)) (Nat.le_trans (by omega : _ ≤ 20000) (show 20000 ≤ sizeLine by decide))
end Rw

namespace Rw
open PySem PySem.Spec PyProof.Rows L2 TL
end Rw

namespace Rw
open PySem PySem.Spec PyProof.Rows L2
/-! the deck: cells, how many are used, what is left of one, a count (at most b) -/
structure Dq (H : Hp) (D C : Addr) (b : Int) : Prop where
  ex : ∃ (cs : List Int) (j r t : Int), H D = some (.lst [.ref C, .int j, .int r, .int t]) ∧ H C = some (.lst (cs.map V.int)) ∧ cs.length ≤ 63 ∧ (∀ c ∈ cs, 0 ≤ c) ∧ 0 ≤ j ∧ 0 ≤ r ∧ 0 ≤ t ∧ t ≤ b
  ne : D ≠ C
theorem Dq.mono {H : Hp} {D C : Addr} {b b' : Int} (x : Dq H D C b) (h : b ≤ b') : Dq H D C b' := by
  obtain ⟨⟨cs, j, r, t, e1, e2, e3, e4, e5, e6, e7, e8⟩, n⟩ := x
  exact ⟨⟨cs, j, r, t, e1, e2, e3, e4, e5, e6, e7, by omega⟩, n⟩
theorem Dq.keep {H H' : Hp} {D C : Addr} {b : Int} (x : Dq H D C b) (k : Keep [] H H') : Dq H' D C b := by
  obtain ⟨⟨cs, j, r, t, e1, e2, z⟩, n⟩ := x
  exact ⟨⟨cs, j, r, t, k _ _ e1 List.not_mem_nil, k _ _ e2 List.not_mem_nil, z⟩, n⟩
theorem Dq.other {H : Hp} {D C p : Addr} {b : Int} {o : HO} (x : Dq H D C b) (h1 : p ≠ D) (h2 : p ≠ C) : Dq (upd H p o) D C b := by
  obtain ⟨⟨cs, j, r, t, e1, e2, z⟩, n⟩ := x
  exact ⟨⟨cs, j, r, t, by rw [upd_ne h1.symm]; exact e1, by rw [upd_ne h2.symm]; exact e2, z⟩, n⟩
theorem Dq.nes {H : Hp} {D C p : Addr} {b : Int} (x : Dq H D C b) (n : H p = none) : p ≠ D ∧ p ≠ C := by
  obtain ⟨⟨cs, j, r, t, e1, e2, z⟩, _⟩ := x
  exact ⟨(ne_of_none e1 n).symm, (ne_of_none e2 n).symm⟩
theorem Dq.new {H : Hp} {D C p : Addr} {b : Int} {o : HO} (x : Dq H D C b) (n : H p = none) : Dq (upd H p o) D C b := x.other (x.nes n).1 (x.nes n).2
theorem Dq.tr {H : Hp} {D C : Addr} {b : Int} (x : Dq H D C b) : Tr [D] H := fun a m => by
  obtain ⟨⟨cs, j, r, t, e1, e2, z⟩, _⟩ := x
  rw [List.mem_singleton.mp m]; exact ⟨_, e1⟩
theorem pick_at {xs : List Int} {k : Int} (k0 : 0 ≤ k) (k1 : k < (xs.length : Int)) : ∃ v ∈ xs, atI (xs.map V.int) k = some (.int v) := by
  have ge : xs[k.toNat]? = some xs[k.toNat] := List.getElem?_eq_getElem (by omega)
  exact ⟨_, List.getElem_mem _, atI_of k0 (by rw [List.getElem?_map, ge]; rfl)⟩
section
variable {P : Program} {w : World} {K : PySem.W.Frag} {mg : Str → Option Value} {base : Heap}
abbrev sStm : Stmt := topS 32
abbrev nStm : List Str := ["_law_script", "_law_own", "_law_cell"]
theorem scStm : FnScope nStm ["_law_script", "_law_own"] (defScope sStm) := ⟨rfl, rfl, rfl, by decide +kernel, rfl, by decide +kernel, by decide +kernel⟩
def spStm (K : PySem.W.Frag) : Sp := fun vs H Q _ => ∃ (a : Addr) (ns : List Int) (t : Int), vs = [.ref a, .int t] ∧ SqL K H a (ns.map V.int) ∧ 0 ≤ t ∧
  ∀ H' D C, Keep [] H H' → H D = none → H C = none → Dq H' D C t → Q (.ref D) H'
theorem ok_stm (h : Has K mg "_law_stream" sStm) (B : Blt mg) : Can P w K mg base "_law_stream" ["_law_script", "_law_own"] 1 (spStm K) := by
  obtain ⟨f, fd, F, g⟩ := h
  refine ⟨f, fd, F.ok (k := 0) scStm (fun vs H Q E h => ?_) (fun cdv A outer s H vs Q E hr h => ?_), g, F.kp, F.binds fun _ _ _ _ _ _ us hl => match us, hl with | [_, _], _ => rfl⟩
  · obtain ⟨a, ns, t, rfl, _⟩ := h
    rfl
  · obtain ⟨a, ns, t, rfl, hS, t0, q⟩ := h
    refine ⟨_, pss_one (ps_ret (pe_lst (pa_cons (pe_lc (own := [("_law_cell", 2)]) (g := gName 2) (tt := tYes) rfl scStm.nd (pi_list (pe_slice sl_list (pv 0) po_none (po_some pe_int))) (blkOk_by (N := nStm) (sc := defScope sStm) (by decide +kernel)) (fun _ _ _ _ _ => (pg_name (i := 2) scStm.nd rfl (by first | exact Or.inl rfl | exact Or.inr rfl))) (fun _ _ _ _ _ => pts_nil) (fun _ _ _ _ _ => (pe_callB call_abs (by rfl) B.abs_ boot_abs (pa_cons (pv 2) pa_nil)))) (pa_cons pe_int (pa_cons pe_int (pa_cons (pv 1) pa_nil)))))), ?_⟩
    refine ⟨.ref a, rfl, ?_⟩
    dsimp only [tNoPart, tPart]
    refine ⟨63, rfl, a, _, rfl, hS, fun M nM => ?_⟩
    have ec : cutV (ns.map V.int) none (some 63) = (ns.take 63).map V.int := by
      rw [show (some (63 : Int)) = some ((63 : Nat) : Int) from rfl, cut_to, List.map_take]
    rw [ec]
    have eM : (upd H M (.lst ((ns.take 63).map V.int))) M = some (.lst ((ns.take 63).map V.int)) := upd_same
    have k1 : Keep [] H (upd H M (.lst ((ns.take 63).map V.int))) := Keep.new nM
    generalize upd H M (.lst ((ns.take 63).map V.int)) = H1 at eM k1 ⊢
    have l63 : (ns.take 63).length ≤ 63 := by rw [List.length_take]; omega
    generalize ns.take 63 = ms at eM l63 ⊢
    refine ⟨M, rfl, ⟨_, SqL.of eM⟩, fun C nC => ?_⟩
    refine lc_list (K := K) (a := M) (xs := ms.map V.int) (fun i G => Keep [] H1 G ∧ ∃ cs : List Int, cs.length = i ∧ (∀ n ∈ cs, 0 ≤ n) ∧ G C = some (.lst (cs.map V.int)))
      ⟨Keep.new nC, [], rfl, fun _ m => absurd m List.not_mem_nil, upd_same⟩ (fun i G _ p => SqL.of (p.1 M _ eM List.not_mem_nil)) (fun i x G hx p => ?_) (fun G p => ?_)
    · obtain ⟨k2, cs, l2, c2, e2⟩ := p
      rw [List.getElem?_map] at hx
      obtain ⟨n, hn, rfl⟩ := Option.map_eq_some_iff.mp hx
      have hi : i < ms.length := (List.getElem?_eq_some_iff.mp hn).1
      refine ⟨rfl, .int n, rfl, n, rfl, cs.map V.int, e2, by rw [List.length_map]; exact small1000 (by omega), k2.upd nC, cs ++ [if n < 0 then -n else n], by rw [List.length_append, l2]; rfl, fun z hz => ?_, by rw [upd_same, List.map_append]; rfl⟩
      rcases List.mem_append.mp hz with hz | hz
      · exact c2 z hz
      · rw [List.mem_singleton.mp hz]; exact abs_nn n
    · obtain ⟨k2, cs, l2, c2, e2⟩ := p
      rw [List.length_map] at l2
      have k3 := k1.trans k2
      refine ⟨.int t, rfl, show 4 ≤ sizeLine by decide, fun D nD => ?_⟩
      refine q _ D C (k3.trans (Keep.new nD)) (k3.fr nD) (k1.fr nC) ⟨⟨cs, 0, 0, t, upd_same, st nD e2, by omega, c2, Int.le_refl 0, Int.le_refl 0, t0, Int.le_refl t⟩, (ne_of_none e2 nD).symm⟩
abbrev sTk : Stmt := topS 33
abbrev nTk : List Str := ["_law_stream_here", "_law_below", "_law_cells", "_law_at", "_law_rest", "_law_turn", "_law_number"]
theorem scTk : FnScope nTk ["_law_stream_here", "_law_below"] (defScope sTk) := ⟨rfl, rfl, rfl, by decide +kernel, rfl, by decide +kernel, by decide +kernel⟩
def spTk : Sp := fun vs H Q _ => ∃ (D C : Addr) (b m : Int), vs = [.ref D, .int m] ∧ 1 ≤ m ∧ m ≤ 1000000000000000 ∧ Dq H D C b ∧ b ≤ 1000000 ∧
  ∀ H' k, Keep [D] H H' → Dq H' D C (b + 1) → 0 ≤ k → k < m → Q (.int k) H'
theorem ok_tk (h : Has K mg "_law_take" sTk) (B : Blt mg) : Can P w K mg base "_law_take" ["_law_stream_here", "_law_below"] 1 spTk := by
  obtain ⟨f, fd, F, g⟩ := h
  refine ⟨f, fd, F.ok (k := 0) scTk (fun vs H Q E h => ?_) (fun cdv A outer s H vs Q E hr h => ?_), g, F.kp, F.binds fun _ _ _ _ _ _ us hl => match us, hl with | [_, _], _ => rfl⟩
  · obtain ⟨D, C, b, m, rfl, _⟩ := h
    rfl
  · obtain ⟨D, C, b, m, rfl, m1, m2, dk, hb, q⟩ := h
    refine ⟨_, pss_cons (ps_asg (pv 0) (pg_unl (by rfl) (pgs_cons (pg_name (i := 2) scTk.nd rfl (by first | exact Or.inl rfl | exact Or.inr rfl)) (pgs_cons (pg_name (i := 3) scTk.nd rfl (by first | exact Or.inl rfl | exact Or.inr rfl)) (pgs_cons (pg_name (i := 4) scTk.nd rfl (by first | exact Or.inl rfl | exact Or.inr rfl)) (pgs_cons (pg_name (i := 5) scTk.nd rfl (by first | exact Or.inl rfl | exact Or.inr rfl)) pgs_nil))))))
      (pss_cons (ps_asg (pe_op op_add (pv 5) pe_int) (pg_sub (pv 0) pe_int set_list))
      (pss_cons (ps_if (PW.pt (pw_and (pt_cmpR op_eq (pv 4) pe_int (nomark _)) (pw_and1 (pt_cmpR op_lt (pv 3) (pe_callB call_len_seq (by rfl) B.len_ PySem.boot_len (pa_cons (pv 2) pa_nil)) (nomark _))))) (pss_cons (ps_asg (pe_op op_add (pv 3) pe_int) (pg_sub (pv 0) pe_int set_list))
      (pss_one (ps_set (i := 4) scTk.nd rfl (by first | exact Or.inl rfl | exact Or.inr rfl) (pe_op op_mul (pe_ix ix_list (pv 2) (pv 3) (fun _ _ => rfl)) (pe_callTy call_int1 (by rfl) B.int_ boot_int (pa_cons (pe_cmpR op_ge (pe_ix ix_list (pv 2) (pv 3) (fun _ _ => rfl)) (pe_op op_pow pe_int pe_int) (nomark _)) pa_nil)))))) pss_nil)
      (pss_cons (ps_asg (pe_op op_fdivW (pv 4) (pv 1)) (pg_sub (pv 0) pe_int set_list))
      (pss_cons (ps_if (pt_cmpR op_gt (pv 4) pe_int (nomark _)) (pss_one (ps_ret (pe_op op_mod (pv 4) (pv 1)))) pss_nil)
      (pss_cons (ps_set (i := 6) scTk.nd rfl (by first | exact Or.inl rfl | exact Or.inr rfl) (pe_op op_mod (pe_op op_pow (pe_op op_add (pe_op op_mul (pv 5) pe_int) pe_int) pe_int) pe_int))
      (pss_cons (ps_if (pt_cmpR (op_neNilL hr.units0) (pv 2) (pe_lst pa_nil) (nomark _)) (pss_one (ps_set (i := 6) scTk.nd rfl (by first | exact Or.inl rfl | exact Or.inr rfl) (pe_op op_add (pv 6) (pe_op op_mul (pe_op op_mod (pe_ix ix_list (pv 2) (pe_op op_mod (pe_op op_mul (pv 5) pe_int) (pe_callB call_len_seq (by rfl) B.len_ PySem.boot_len (pa_cons (pv 2) pa_nil))) (fun _ _ => rfl)) pe_int) (pe_op op_add (pv 5) pe_int))))) pss_nil)
      (pss_cons (ps_set (i := 6) scTk.nd rfl (by first | exact Or.inl rfl | exact Or.inr rfl) (pe_op op_mod (pv 6) pe_int))
      (pss_one (ps_ret (pe_op op_mod (pe_op op_fdiv (pe_op op_mod (pe_op op_mul (pv 6) (pv 6)) pe_int) pe_int) (pv 1))))))))))), ?_⟩
    obtain ⟨⟨cs, j, r, t, eD, eC, lc, pc, j0, r0, t0, tb⟩, nDC⟩ := dk
    refine ⟨.ref D, rfl, D, _, rfl, SqL.of eD, rfl, _, _, rfl, _, _, rfl, _, _, rfl, _, [], rfl, rfl, ?_⟩
    refine ⟨.int t, rfl, t, 1, rfl, rfl, .ref D, rfl, D, _, 3, 3, rfl, rfl, eD, rfl, ?_⟩
    have eD1 : (upd H D (.lst [.ref C, .int j, .int r, .int (t + 1)])) D = some (.lst [.ref C, .int j, .int r, .int (t + 1)]) := upd_same
    have eC1 : (upd H D (.lst [.ref C, .int j, .int r, .int (t + 1)])) C = some (.lst (cs.map V.int)) := by rw [upd_ne nDC.symm]; exact eC
    have k1 : Keep [D] H (upd H D (.lst [.ref C, .int j, .int r, .int (t + 1)])) := Keep.put (by simp)
    show (_ : Prop)
    generalize hJ1 : upd H D (.lst ([V.ref C, V.int j, V.int r, V.int t].set 3 (V.int (t + 1)))) = J1
    have hJ : upd H D (.lst [.ref C, .int j, .int r, .int (t + 1)]) = J1 := hJ1
    rw [hJ] at eD1 eC1 k1
    clear hJ1 hJ
    refine ⟨.int r, rfl, rfl, _, rfl, ?_⟩
    rcases (by omega : (r = 0 ∧ j < (cs.length : Int)) ∨ (r = 0 ∧ ¬ j < (cs.length : Int)) ∨ r ≠ 0) with ⟨c0, c1⟩ | ⟨c0, c1⟩ | c0
    case' inl =>
      rw [decide_eq_true (show V.int r = V.int 0 by rw [c0])]
      refine iteT ?_
      refine ⟨.int j, rfl, .ref C, rfl, C, _, rfl, .inl (SqL.of eC1), j, _, rfl, rfl, _, rfl, ?_⟩
      rw [List.length_map, decide_eq_true c1]
      refine iteT ?_
      have ge : cs[j.toNat]? = some cs[j.toNat] := List.getElem?_eq_getElem (by omega)
      have cp : 0 ≤ cs[j.toNat] := pc _ (List.getElem_mem _)
      have gv : atI (cs.map V.int) j = some (.int cs[j.toNat]) := atI_of j0 (by rw [List.getElem?_map, ge]; rfl)
      generalize cs[j.toNat] = c at cp gv
      refine ⟨.int j, rfl, j, 1, rfl, rfl, .ref D, rfl, D, _, 1, 1, rfl, rfl, eD1, rfl, ?_⟩
      have eD2 : (upd J1 D (.lst [.ref C, .int (j + 1), .int r, .int (t + 1)])) D = some (.lst [.ref C, .int (j + 1), .int r, .int (t + 1)]) := upd_same
      have eC2 : (upd J1 D (.lst [.ref C, .int (j + 1), .int r, .int (t + 1)])) C = some (.lst (cs.map V.int)) := by rw [upd_ne nDC.symm]; exact eC1
      have k2 : Keep [D] H (upd J1 D (.lst [.ref C, .int (j + 1), .int r, .int (t + 1)])) := k1.trans (Keep.put (by simp))
      show (_ : Prop)
      generalize hJ1 : upd J1 D (.lst ([V.ref C, V.int j, V.int r, V.int (t + 1)].set 1 (V.int (j + 1)))) = J2
      have hJ : upd J1 D (.lst [.ref C, .int (j + 1), .int r, .int (t + 1)]) = J2 := hJ1
      rw [hJ] at eD2 eC2 k2
      clear hJ1 hJ
      refine ⟨.ref C, rfl, .int j, rfl, C, _, j, .int c, rfl, rfl, SqL.of eC2, gv, .ref C, rfl, .int j, rfl, C, _, j, .int c, rfl, rfl, SqL.of eC2, gv, 10, 18, rfl, rfl, ⟨by decide, by decide, by decide⟩, c, _, rfl, rfl, .inr ⟨_, rfl, c, _, rfl, rfl, .inr (by split <;> decide), ?_⟩⟩
      have R0 : 0 ≤ c * (if decide (10 ^ Int.toNat 18 ≤ c) = true then 1 else 0) := Int.mul_nonneg cp (by split <;> decide)
      dsimp only
      generalize c * (if decide (10 ^ Int.toNat 18 ≤ c) = true then 1 else 0) = R at R0 ⊢
      have j0' : 0 ≤ j + 1 := by omega
      generalize j + 1 = j' at eD2 j0'
      generalize r = ro at eD2
    case' inr.inl =>
      rw [decide_eq_true (show V.int r = V.int 0 by rw [c0])]
      refine iteT ?_
      refine ⟨.int j, rfl, .ref C, rfl, C, _, rfl, .inl (SqL.of eC1), j, _, rfl, rfl, _, rfl, ?_⟩
      rw [List.length_map, decide_eq_false c1]
      refine iteF ?_
      obtain ⟨J2, hj⟩ : ∃ J2, J2 = J1 := ⟨_, rfl⟩
      subst hj
      have eD2 := eD1
      have eC2 := eC1
      have k2 := k1
      have R0 := r0
      have j0' := j0
      obtain ⟨R, hR⟩ : ∃ R, R = r := ⟨_, rfl⟩
      subst hR
      obtain ⟨j', hj⟩ : ∃ j', j' = j := ⟨_, rfl⟩
      subst hj
    case' inr.inr =>
      rw [decide_eq_false (show ¬ V.int r = V.int 0 from fun e => c0 (V.int.inj e))]
      refine iteF ?_
      obtain ⟨J2, hj⟩ : ∃ J2, J2 = J1 := ⟨_, rfl⟩
      subst hj
      have eD2 := eD1
      have eC2 := eC1
      have k2 := k1
      have R0 := r0
      have j0' := j0
      obtain ⟨R, hR⟩ : ∃ R, R = r := ⟨_, rfl⟩
      subst hR
      obtain ⟨j', hj⟩ : ∃ j', j' = j := ⟨_, rfl⟩
      subst hj
    all_goals
      refine ⟨.int R, rfl, .int m, rfl, R, m, rfl, rfl, wide_div (b := 64) (by omega) (by omega) (by decide) (by decide), .ref D, rfl, D, _, 2, 2, rfl, rfl, eD2, rfl, ?_⟩
      have S0 : 0 ≤ R / m := Int.ediv_nonneg R0 (by omega)
      have eD3 : (upd J2 D (.lst [.ref C, .int j', .int (R / m), .int (t + 1)])) D = some (.lst [.ref C, .int j', .int (R / m), .int (t + 1)]) := upd_same
      have eC3 : (upd J2 D (.lst [.ref C, .int j', .int (R / m), .int (t + 1)])) C = some (.lst (cs.map V.int)) := by rw [upd_ne nDC.symm]; exact eC2
      have k3 : Keep [D] H (upd J2 D (.lst [.ref C, .int j', .int (R / m), .int (t + 1)])) := k2.trans (Keep.put (by simp))
      show (_ : Prop)
      rw [show ∀ o : V, [V.ref C, V.int j', o, V.int (t + 1)].set 2 (V.int (R / m)) = [V.ref C, V.int j', V.int (R / m), V.int (t + 1)] from fun _ => rfl]
      generalize upd J2 D (.lst [V.ref C, V.int j', V.int (R / m), V.int (t + 1)]) = J3 at eD3 eC3 k3 ⊢
      have dk3 : Dq J3 D C (b + 1) := ⟨⟨cs, j', R / m, t + 1, eD3, eC3, lc, pc, j0', S0, by omega, by omega⟩, nDC⟩
      refine ⟨.int R, rfl, R, 0, rfl, rfl, _, rfl, ite2 (fun e => ?_) (fun e => ?_)⟩
      · exact ⟨.int R, rfl, .int m, rfl, R, m, rfl, rfl, (show (0 : Int) < m by omega), q _ _ k3 dk3 (Int.emod_nonneg _ (by omega)) (Int.emod_lt_of_pos _ (by omega))⟩
      · clear e
        have bp : (t * 48271 + 12345).natAbs < 2 ^ 64 := by have : (2 : Nat) ^ 64 = 18446744073709551616 := by decide
                                                            omega
        refine ⟨.int t, rfl, t, 48271, rfl, rfl, .inr ⟨by decide, by decide⟩, _, 12345, rfl, rfl, _, 3, rfl, rfl, ⟨by decide, by decide, bp⟩, _, _, rfl, rfl, (show (0 : Int) < 2305843009213693951 by decide), ?_⟩
        dsimp only
        generalize (t * 48271 + 12345) ^ Int.toNat 3 % 2305843009213693951 = x1
        refine ⟨.ref C, rfl, show 0 ≤ sizeLine by decide, fun E0 nE => ?_⟩
        have eC4 := st (o := .lst []) nE eC3
        have dk4 := dk3.new (o := .lst []) nE
        have k4 : Keep [D] H (upd J3 E0 (.lst [])) := k3.trans (Keep.new nE)
        refine ⟨C, E0, _, rfl, rfl, SqL.of eC4, SqL.of upd_same, _, rfl, ?_⟩
        generalize upd J3 E0 (.lst []) = J4 at eC4 dk4 k4 ⊢
        have fin : ∀ x : Int, Q (.int (x % m)) J4 := fun x => q _ _ k4 dk4 (Int.emod_nonneg _ (by omega)) (Int.emod_lt_of_pos _ (by omega))
        rcases (by cases cs with | nil => exact .inl rfl | cons a l => exact .inr (by rw [List.length_cons]; omega) : cs = [] ∨ 0 < (cs.length : Int)) with rfl | hc
        case' inl =>
          refine iteF ?_
        case' inr =>
          have hne : (!(cs.map V.int).isEmpty) = true := by cases cs with | nil => exact absurd hc (by decide) | cons a l => rfl
          rw [if_pos rfl, hne]
          refine iteT ?_
          have i0 : 0 ≤ t * 7 % (cs.length : Int) := Int.emod_nonneg _ (by omega)
          have i1 : t * 7 % (cs.length : Int) < (cs.length : Int) := Int.emod_lt_of_pos _ hc
          obtain ⟨c, mc, gc⟩ := pick_at i0 i1
          have lm : (cs.map V.int).length = cs.length := List.length_map ..
          have c0 : 0 ≤ c % 2305843009213693951 := Int.emod_nonneg _ (by decide)
          have c1 : c % 2305843009213693951 < 2305843009213693951 := Int.emod_lt_of_pos _ (by decide)
          refine ⟨.int x1, rfl, .ref C, rfl, .int t, rfl, t, 7, rfl, rfl, .inr ⟨by decide, by decide⟩, .ref C, rfl, C, _, rfl, .inl (SqL.of eC4), _, _, rfl, rfl, (show (0 : Int) < ((cs.map V.int).length : Int) by rw [lm]; exact hc), C, _, _, .int c, rfl, rfl, SqL.of eC4, by rw [lm]; exact gc, c, _, rfl, rfl, (show (0 : Int) < 2305843009213693951 by decide), .int t, rfl, t, 3, rfl, rfl, _, _, rfl, rfl, .inl ⟨by omega, by omega⟩, x1, _, rfl, rfl, ?_⟩
          dsimp only
          generalize x1 + c % 2305843009213693951 * (t + 3) = x1
        all_goals
          refine ⟨.int x1, rfl, x1, _, rfl, rfl, (show (0 : Int) < 2305843009213693951 by decide), ?_⟩
          have y0 : 0 ≤ x1 % 2305843009213693951 := Int.emod_nonneg _ (by decide)
          have y1 : x1 % 2305843009213693951 < 2305843009213693951 := Int.emod_lt_of_pos _ (by decide)
          dsimp only
          generalize x1 % 2305843009213693951 = x2 at y0 y1 ⊢
          exact ⟨.int x2, rfl, .int x2, rfl, x2, x2, rfl, rfl, .inl ⟨by omega, by omega⟩, _, _, rfl, rfl, (show (0 : Int) < 2305843009213693951 by decide), _, 16, rfl, rfl, ⟨by decide, by decide⟩, .int m, rfl, _, m, rfl, rfl, (show (0 : Int) < m by omega), fin _⟩
end
end Rw

namespace Rw
open PySem PySem.Spec PyProof.Rows L2
theorem rising_of : ∀ {ks : List (Int × Int)} {lo hi : Int}, (ks.map Prod.fst).Pairwise (· < ·) → (∀ k ∈ ks, lo ≤ k.1 ∧ k.1 ≤ hi) → rising lo hi ks
  | [], _, _, _, _ => trivial
  | k :: ks, lo, hi, pw, h => by
    rw [List.map_cons, List.pairwise_cons] at pw
    have hk := h k List.mem_cons_self
    refine ⟨hk.1, hk.2, rising_of pw.2 fun z m => ?_⟩
    have h1 := pw.1 z.1 (List.mem_map_of_mem m)
    have h2 := h z (List.mem_cons_of_mem _ m)
    exact ⟨by omega, h2.2⟩
theorem not1 {D p : Addr} (h : p ≠ D) : p ∉ [D] := fun m => h (List.mem_singleton.mp m)
theorem one_in {D : Addr} {av : List Addr} (m : D ∈ av) : ∀ a ∈ [D], a ∈ av := fun a h => by rw [List.mem_singleton.mp h]; exact m
theorem e15 : (10 : Int) ^ Int.toNat 15 = 1000000000000000 := by decide
theorem e14 : (10 : Int) ^ Int.toNat 14 = 100000000000000 := by decide
theorem e6 : (10 : Int) ^ Int.toNat 6 = 1000000 := by decide
theorem Dq.free {H H' : Hp} {D C p : Addr} {b : Int} (d : Dq H' D C b) (k : Keep [D] H H') (n : H' p = none) : H p = none := k.fre d.tr n
end Rw

namespace Rw
open PySem PySem.Spec PyProof.Rows L2 TL
/-! ### data shown: how deep and how long, and repr of it where nothing else is being shown -/
structure Sw (k n : Nat) (d : PyData) : Prop where
  lay : d.canLay0 = true
  sh : d.showable = true
  dp : d.depth ≤ k
  ln : d.shown.length ≤ n
theorem Sw.mono {k n k' n' : Nat} {d : PyData} (h : Sw k n d) (h1 : k ≤ k') (h2 : n ≤ n') : Sw k' n' d := ⟨h.lay, h.sh, Nat.le_trans h.dp h1, Nat.le_trans h.ln h2⟩
theorem sw_all {k n : Nat} : ∀ ds : List PyData, (∀ d ∈ ds, Sw k n d) → PyData.canLayAll0 ds = true ∧ PyData.showableAll ds = true ∧ PyData.depthAll ds ≤ k ∧ ((PyData.shownAll ds).map (·.length)).sum ≤ ds.length * n ∧ (PyData.shownAll ds).length = ds.length
  | [], _ => by
    refine ⟨by simp only [PyData.canLayAll0], by simp only [PyData.showableAll], by simp only [PyData.depthAll]; omega, ?_, ?_⟩
    · simp only [PyData.shownAll]; exact Nat.zero_le _
    · simp only [PyData.shownAll]; rfl
  | d :: ds, h => by
    have hd := h d List.mem_cons_self
    obtain ⟨a1, a2, a3, a4, a5⟩ := sw_all ds fun z m => h z (List.mem_cons_of_mem _ m)
    have e1 := hd.dp
    have e2 := hd.ln
    refine ⟨by simp only [PyData.canLayAll0, hd.lay, a1, Bool.and_true], by simp only [PyData.showableAll, hd.sh, a2, Bool.and_true], ?_, ?_, ?_⟩
    · simp only [PyData.depthAll]; omega
    · simp only [PyData.shownAll, List.map_cons, List.sum_cons, List.length_cons]
      rw [Nat.succ_mul]; omega
    · simp only [PyData.shownAll, List.length_cons, a5]
theorem Sw.tup {k n m : Nat} {ds : List PyData} (h : ∀ d ∈ ds, Sw k n d) (hm : ds.length ≤ m) : Sw (k + 1) (m * (n + 2) + 3) (.tuple ds) := by
  obtain ⟨a1, a2, a3, a4, a5⟩ := sw_all ds h
  refine ⟨by simp only [PyData.canLay0, a1], by simp only [PyData.showable, a2], by simp only [PyData.depth]; omega, ?_⟩
  have h2 := tupleText_len_le (PyData.shownAll ds)
  have h3 : ds.length * (n + 2) ≤ m * (n + 2) := Nat.mul_le_mul hm (Nat.le_refl _)
  have h4 : ds.length * (n + 2) = ds.length * n + 2 * ds.length := by rw [Nat.mul_add]; omega
  simp only [PyData.shown]
  omega
theorem Sw.lst {k n m : Nat} {ds : List PyData} (h : ∀ d ∈ ds, Sw k n d) (hm : ds.length ≤ m) : Sw (k + 1) (m * (n + 2) + 3) (.list ds) := by
  obtain ⟨a1, a2, a3, a4, a5⟩ := sw_all ds h
  refine ⟨by simp only [PyData.canLay0, a1], by simp only [PyData.showable, a2], by simp only [PyData.depth]; omega, ?_⟩
  have h2 := listText_len_le (PyData.shownAll ds)
  have h3 : ds.length * (n + 2) ≤ m * (n + 2) := Nat.mul_le_mul hm (Nat.le_refl _)
  have h4 : ds.length * (n + 2) = ds.length * n + 2 * ds.length := by rw [Nat.mul_add]; omega
  simp only [PyData.shown]
  omega
theorem Sw.int {i : Int} (h0 : 0 ≤ i) (h1 : i < 1000000000000000) : Sw 0 16 (.int i) := by
  have l := len15 h0 h1
  refine ⟨by simp only [PyData.canLay0], ?_, by simp only [PyData.depth]; omega, ?_⟩
  · simp only [PyData.showable]; exact decide_eq_true (tx_log h0 (by omega))
  · show (tx i).length ≤ 16; omega
section
variable {X : Cx}
def rReprT : List V → Hp → VK → Prop := fun xs H Q => ∃ (a : Addr) (d : PyData) (n : Nat), xs = [.ref a] ∧ Dt [] H (.ref a) d ∧ Sw 60 n d ∧ n ≤ 100000 ∧ Q (.str d.shown) H
theorem cr_reprT (hg : X.A.guards = some []) (hu : X.A.units + 70 < cLine) : CallR X (.builtin "repr") rReprT := by
  intro pins s σ H xs us Q I r h
  obtain ⟨a, d, n, rfl, hd, sw, hn, q⟩ := h
  obtain ⟨u, rfl, ru⟩ := vals1 r
  obtain ⟨as, rd⟩ := Dp.reads I d _ _ (Dt.dp d _ hd sw.lay) ru
  cases ru
  have e1 := sw.dp
  have e2 := sw.ln
  have sz : (100000 : Nat) ≤ sizeLine := by decide
  exact repr_of_reads' rd sw.sh (PyData.noDict_hsm (PyData.hasDict_of_canLay d sw.lay)) hg (by omega) (fun _ _ e => e) (fun h' t tk k => ⟨.str d.shown, H, I.kept (t' := tk) k, ⟨t, rfl⟩, q⟩) (by omega)
end
theorem units70 {k : Nat} {A : Around} (r : Room k A) : A.units + 70 < cLine := by have := r.un; omega
end Rw

namespace Rw
open PySem PySem.Spec PyProof.Rows L2
structure okH (n : Int) (ps : List Pi) : Prop where
  n1 : 1 ≤ n
  n16 : n ≤ 16
  len : (ps.length : Int) + 1 = n
  ok : ∀ p ∈ ps, p.ok n
  con : Con n.toNat (edges ps)
  na : (ps.map fun p => p.na.length).sum ≤ 12
  fl : (ps.map fun p => p.fl.length).sum ≤ 6
theorem rise_fit {lo hi : Int} {ks : List (Int × Int)} (pw : (ks.map (·.1)).Pairwise (· < ·)) (h : ∀ k ∈ ks, lo ≤ k.1 ∧ k.1 ≤ hi) : rising lo hi ks := rising_of pw h
theorem pipe_is {H : Hp} {v : V} {p : Pi} (h : Dt [] H v p.dat) : ∃ a v3 v4, v = .ref a ∧ H a = some (.tup [.int p.x, .int p.y, .int p.l, v3, v4]) ∧ Dt [] H v3 (.tuple (p.na.map prD)) ∧ Dt [] H v4 (.tuple (p.fl.map prD)) := by
  obtain ⟨a, xs, rfl, _, ea, da⟩ := tup_at h
  cases da with
  | cons d1 da => cases d1; cases da with
    | cons d2 da => cases d2; cases da with
      | cons d3 da => cases d3; cases da with
        | cons d4 da => cases da with
          | cons d5 da => cases da; exact ⟨a, _, _, rfl, ea, d4, d5⟩
theorem at_grp {gs : List Int} {x : Int} (h0 : 0 ≤ x) (h : x < gs.length) : atI (gs.map V.int) x = some (.int (grp gs x.toNat)) := by
  refine atI_of h0 ?_
  rw [List.getElem?_map, List.getElem?_eq_getElem (by omega)]
  unfold grp
  rw [List.getD_eq_getElem?_getD, List.getElem?_eq_getElem (by omega)]; rfl
theorem rg_start {r : Int} (h : 0 ≤ r) : rgV 0 r = (Rw.start r.toNat).map V.int := by
  unfold rgV Rw.start
  rw [List.map_map, Int.sub_zero]
  apply List.map_congr_left
  intro a _
  show V.int (0 + (a : Int)) = V.int (Int.ofNat a)
  rw [Int.zero_add]; rfl
theorem sum_ints (ns : List Nat) : (ns.map fun (n : Nat) => (n : Int)).sum = ((ns.sum : Nat) : Int) := by
  induction ns with
  | nil => rfl
  | cons n ns ih => rw [List.map_cons, List.sum_cons, List.sum_cons, ih]; omega
theorem okH.join {n : Int} {ps : List Pi} (h : okH n ps) : joins (Rw.start n.toNat) (edges ps) = true := by
  have h1 := h.n1
  have h2 := h.len
  refine (joins_iff (by omega) (fun e he => ?_) (by unfold edges; rw [List.length_map]; omega)).mpr h.con
  obtain ⟨p, mp, rfl⟩ := List.mem_map.mp he
  have o := h.ok p mp
  have a1 := o.x0
  have a2 := o.x1
  have a3 := o.y0
  have a4 := o.y1
  exact ⟨by show p.x.toNat < n.toNat; omega, by show p.y.toNat < n.toNat; omega⟩
end Rw

namespace Rw
open PySem PySem.Spec PyProof.Rows L2
/-! ### same, of the same data twice: numbers, truths, texts, tuples and lists of these -/
def Fi4 (W : Addr) (H : Hp) (ok : Nat → Bool) (i : Nat) (J : Hp) : Prop := Keep [] H J ∧ ∃ ws, J W = some (.lst ws) ∧ ws.length ≤ i ∧ ws.isEmpty = (List.range i).all ok
theorem Fi4.start {W : Addr} {H : Hp} {ok : Nat → Bool} (n : H W = none) : Fi4 W H ok 0 (upd H W (.lst [])) := ⟨Keep.new n, [], upd_same, Nat.le_refl _, rfl⟩
theorem Fi4.skip {W : Addr} {H J : Hp} {ok : Nat → Bool} {i : Nat} (h : Fi4 W H ok i J) (o : ok i = true) : Fi4 W H ok (i + 1) J := by
  obtain ⟨k, ws, e, l, z⟩ := h
  refine ⟨k, ws, e, by omega, ?_⟩
  rw [List.range_succ, List.all_append, z, List.all_cons, o]; simp
theorem Fi4.put {W : Addr} {H J J2 : Hp} {ok : Nat → Bool} {i : Nat} {x : V} (h : Fi4 W H ok i J) (k2 : Keep [] J J2) (n : H W = none) (hi : i ≤ 100000) (o : ok i = false) : ∃ acc, J2 W = some (.lst acc) ∧ acc.length < sizeLine ∧ Fi4 W H ok (i + 1) (upd J2 W (.lst (acc ++ [x]))) := by
  obtain ⟨k, ws, e, l, z⟩ := h
  refine ⟨ws, k2.same W _ e, by rw [sizeLine_eq]; omega, (k.trans k2).upd n, ws ++ [x], upd_same, by rw [List.length_append, List.length_singleton]; omega, ?_⟩
  rw [List.range_succ, List.all_append, List.all_cons, o]
  cases ws <;> simp
theorem Fi4.go {W : Addr} {H J J2 : Hp} {ok : Nat → Bool} {i : Nat} (h : Fi4 W H ok i J) (k2 : Keep [] J J2) : Fi4 W H ok i J2 := by
  obtain ⟨k, ws, e, l, z⟩ := h
  exact ⟨k.trans k2, ws, k2.same W _ e, l, z⟩
theorem kit_lst_l4 {K : PySem.W.Frag} : PySem.W.kitAny K (.type "list") [.type "list", .type "tuple"] = some true :=
  kitAny_cons (kit_ty (r := true) (by decide +kernel)) (fun e => by cases e) (fun _ => rfl)
theorem kit_bool_l4 {K : PySem.W.Frag} : PySem.W.kitAny K (.type "bool") [.type "list", .type "tuple"] = some false :=
  kitAny_cons (kit_ty (r := false) (by decide +kernel)) (fun _ => kitAny_cons (kit_ty (r := false) (by decide +kernel)) (fun _ => rfl) (fun e => by cases e)) (fun e => by cases e)
theorem kit_str_lt {K : PySem.W.Frag} : PySem.W.kitAny K (.type "str") [.type "list", .type "tuple"] = some false :=
  kitAny_cons (kit_ty (r := false) (by decide +kernel)) (fun _ => kitAny_cons (kit_ty (r := false) (by decide +kernel)) (fun _ => rfl) (fun e => by cases e)) (fun e => by cases e)
inductive IS : Nat → PyData → Prop
  | int (m : Nat) (i : Int) : IS m (.int i)
  | bool (m : Nat) (b : Bool) : IS m (.bool b)
  | str (m : Nat) (x : Str) : IS m (.str x)
  | tup {m : Nat} {ds : List PyData} : ds.length ≤ 1000 → (∀ d ∈ ds, IS m d) → IS (m + 1) (.tuple ds)
  | lst {m : Nat} {ds : List PyData} : ds.length ≤ 1000 → (∀ d ∈ ds, IS m d) → IS (m + 1) (.list ds)
def leafS : PyData → Bool
  | .int _ => true
  | .bool _ => true
  | .str _ => true
  | _ => false
end Rw

namespace Rw
open PySem PySem.Spec PyProof.Rows L2
theorem e12 : (10 : Int) ^ Int.toNat 12 = 1000000000000 := by decide
theorem con_of {n : Int} {ps : List Pi} (h : ∀ r : Int, 1 ≤ r → r < n → ∃ p ∈ ps, p.y = r ∧ 0 ≤ p.x ∧ p.x < r) : Con n.toNat (edges ps) := con_up h
theorem sum_ins (f : Pi → Nat) (ps : List Pi) (q : Pi) (k : Nat) : ((ps.take k ++ [q] ++ ps.drop k).map f).sum = (ps.map f).sum + f q := by
  have e : (ps.map f).sum = ((ps.take k).map f).sum + ((ps.drop k).map f).sum := by rw [← List.sum_append, ← List.map_append, List.take_append_drop]
  rw [List.map_append, List.map_append, List.sum_append, List.sum_append, e]
  show _ + (f q + 0) + _ = _
  omega
theorem ins_mem {ps : List Pi} {q z : Pi} {k : Nat} : z ∈ ps.take k ++ [q] ++ ps.drop k ↔ z = q ∨ z ∈ ps := by
  rw [(ins_perm ps k q).mem_iff, List.mem_cons]
end Rw

namespace Rw
open PySem PySem.Spec PyProof.Rows L2
/-! ### defs that are called where nothing is being shown: they may show lists -/
structure FnG (P : Program) (w : World) (K : PySem.W.Frag) (mg : Str → Option Value) (base : Heap) (CX : CXT) (k : Nat) (f : Addr) (fd : FuncData) (ps : List Str) (sp : Sp) : Prop where
  ln : ∀ vs H Q E, sp vs H Q E → vs.length = ps.length
  go : ∀ (A : Around) (out : List Env) (s : Shared) (H : Hp) (ar : Args) (us : List Value) (vs : List V) (Q : VK) (E : XK), Room k A → A.guards = some [] → Env0 P w K mg base A out s H → BindsTo s fd ar (ps.zip us) → Vals vs us → sp vs H Q E → codeAny (model P w) A (.call (.ref f) ar) (CR CX out P w H s Q E) s
section
variable {P : Program} {w : World} {K : PySem.W.Frag} {mg : Str → Option Value} {base : Heap}
theorem fnG_of {CX : CXT} {f : Addr} {x q : Str} {st : Stmt} {fd : FuncData} {N ps : List Str} {k : Nat} {sp : Sp} (F : Fun K x q st f fd) (S : FnScope N ps (defScope st)) (ln : ∀ vs H Q E, sp vs H Q E → vs.length = ps.length)
    (body : ∀ (cdv : Value) (A : Around) (out : List Env) (s : Shared) (H : Hp) (vs : List V) (Q : VK) (E : XK), Room k (A.deeper (envOfC q (defScope st) s.heap.objs.size f cdv)) → A.guards = some [] → sp vs H Q E →
      ∃ t, PSs (cxOf CX P w K mg base N q (defScope st) f cdv A out s H E) (defBody st) t ∧ t { nx := fun _ H' => Q .non H', rt := Q } (L2.start N vs) H) : FnG P w K mg base CX (k + 1) f fd ps sp := by
  obtain ⟨oc, od, kV, doc, pm, an, cdv, ct, osl, rfl, lk, hcd⟩ := F.ex
  refine ⟨ln, fun A out s H ar us vs Q E room hg e0 hb r hsp => ?_⟩
  have KX : K.In s.heap := e0.mod.kin.keeps (fun b o e => (e0.bs b o e).1)
  have lim : s.heap.NoLimit := e0.mod.nolimit.keeps (fun b o e => (e0.bs b o e).1)
  have kinds : ∀ z ∈ ps.zip us, (defScope st).names.lookup z.1 = some .local ∨ ((defScope st).names.lookup z.1 = some .cell ∧ ((cellsFrom (s.heap.objs.size + 1) (defScope st).names []).lookup z.1).isSome = true) := fun ⟨n, v⟩ hz => by
    rcases S.par n (List.of_mem_zip hz).1 with g | g
    · exact Or.inl g
    · exact Or.inr ⟨g, PySem.W.cellsFrom_some _ _ _ (.inl g)⟩
  refine codeAny_call_function room.depth (KX _ _ lk) rfl S.co S.gen rfl (PySem.W.codeRec_of KX hcd) (hb _ _ _ _ (wpAny_newFunctionEnv_cells S.kind kinds fun env he s1 ic => ?_))
  subst he
  refine ⟨lim.keeps ic.toInCall.keep, codeAny_func ?_⟩
  obtain ⟨t, ht, hq⟩ := body cdv A out s H vs Q E (room.deeper _) hg hsp
  have I : Inv (cxOf CX P w K mg base N q (defScope st) f cdv A out s H E) [] (L2.start N vs) H s1 := inv_start S room.hd e0 (ln _ _ _ _ hsp) r ic
  refine wpAny_mono (ht.run [] s1 (L2.start N vs) H _ I hq) (fun fl s2 hs => ?_) fun e s2 hs => hs
  cases fl with
  | ret u2 =>
    obtain ⟨v2, σ2, H2, J, rv, z⟩ := hs
    exact ⟨v2, H2, J.os, J.bare, J.base, J.hok, rv, z⟩
  | next =>
    obtain ⟨σ2, H2, J, z⟩ := hs
    exact ⟨V.non, H2, J.os, J.bare, J.base, J.hok, rfl, z⟩
  | brk =>
    obtain ⟨_, _, _, z⟩ := hs
    exact False.elim z
  | cont =>
    obtain ⟨_, _, _, z⟩ := hs
    exact False.elim z
end
def CanG (P : Program) (w : World) (K : PySem.W.Frag) (mg : Str → Option Value) (base : Heap) (x : Str) (ps : List Str) (k : Nat) (sp : Sp) : Prop :=
  ∃ f fd, FnG P w K mg base CX0 k f fd ps sp ∧ mg x = some (.ref f) ∧ PySem.W.keepIn K (.ref f) = true ∧ Binds K fd ps []
theorem pe_canG {X : Cx} {x : Str} {ps : List Str} {k : Nat} {sp : Sp} {e : Expr} {es : List Expr} {t : TA} {p pos : Pos} (C : CanG X.prog X.w X.K X.mg X.base x ps k sp) (hr : Room k X.A) (hgu : X.A.guards = some []) (hg : Gl X x)
    (ha : PA X (e :: es) t) (hdb : (x == ("__debug__" : Str)) = false := by decide) (he : starEach (e :: es) X.env = (false, eval e X.env) :: starEach es X.env := by rfl) (hpl : (backTo pos (starEach es X.env)).any (·.1) = false := by rfl) :
    PE X (.Call (.Name x p) (e :: es) [] pos) (tCall sp [] E0 t) := by
  obtain ⟨f, fd, F, gm, kp, b⟩ := C
  refine ⟨fun pn s0 σ H Q I h => wpAny_Call_Name_kw (ld_glob I hg gm (PySem.W.callWith_K (h₀ := X.base) I.ok.mod.kin kp (thn (ha.run pos pn s0 σ H _ I h) fun us s1 hh => ?_) he hpl) hdb)⟩
  obtain ⟨vs, H1, I1, r, q⟩ := hh
  rw [List.append_nil] at q
  have hl : (us ++ []).length = ps.length := by rw [List.append_nil, ← r.length]; exact F.ln _ _ _ _ q
  have bt := b s1 us I1.kIn hl
  rw [List.append_nil] at bt
  refine ⟨I1.kIn, wpAny_call (codeAny_mono (F.go X.A X.stack s1 H1 ⟨us, []⟩ us vs Q E0 hr hgu I1.env0 bt r q) fun z s2 hz => ?_)⟩
  match z, hz with
  | .ok (.ret u), hz => exact I1.after hz
  | .ok .next, hz => exact False.elim hz
  | .ok .brk, hz => exact False.elim hz
  | .ok .cont, hz => exact False.elim hz
  | .error _, hz => exact False.elim hz
/-! ### defs that may let an error out -/
def CanX (P : Program) (w : World) (K : PySem.W.Frag) (mg : Str → Option Value) (base : Heap) (x : Str) (ps : List Str) (k : Nat) (sp : Sp) : Prop :=
  ∃ f fd, FnOk P w K mg base (L2.CX P w) k f fd ps sp ∧ mg x = some (.ref f) ∧ PySem.W.keepIn K (.ref f) = true ∧ Binds K fd ps []
/-! called in a def that lets the same out -/
theorem pe_canX {X : Cx} {E : XK} {x : Str} {ps : List Str} {k : Nat} {sp : Sp} {e : Expr} {es : List Expr} {t : TA} {p pos : Pos} (C : CanX X.prog X.w X.K X.mg X.base x ps k sp) (hr : Room k X.A) (tk : Takes X (fun cls d _ H => E cls d H)) (hg : Gl X x)
    (ha : PA X (e :: es) t) (hdb : (x == ("__debug__" : Str)) = false := by decide) (he : starEach (e :: es) X.env = (false, eval e X.env) :: starEach es X.env := by rfl) (hpl : (backTo pos (starEach es X.env)).any (·.1) = false := by rfl) :
    PE X (.Call (.Name x p) (e :: es) [] pos) (tCall sp [] E t) := by
  obtain ⟨f, fd, F, gm, kp, b⟩ := C
  exact pe_call F hr hg gm kp b .nil (passes_call tk fun _ _ _ _ z => z) ha hdb he hpl
/-! called in a try -/
theorem pe_canT {X : Cx} {W : WX} {x : Str} {ps : List Str} {k : Nat} {sp : Sp} {e : Expr} {es : List Expr} {t : TA} {p pos : Pos} (C : CanX X.prog X.w X.K X.mg X.base x ps k sp) (hr : Room k X.A) (tk : Takes X W) (hg : Gl X x)
    (ha : PA X (e :: es) t) (hdb : (x == ("__debug__" : Str)) = false := by decide) (he : starEach (e :: es) X.env = (false, eval e X.env) :: starEach es X.env := by rfl) (hpl : (backTo pos (starEach es X.env)).any (·.1) = false := by rfl) :
    PE X (.Call (.Name x p) (e :: es) [] pos) (tCallS sp (WE W) t) := by
  obtain ⟨f, fd, F, gm, kp, b⟩ := C
  exact pe_callS F hr hg gm kp b (fun σ => passAt tk σ) ha hdb he hpl
end Rw

namespace Rw
open PySem PySem.Spec PyProof.Rows L2
/-! ### try: body, except A as n: .., except B as n: .. -/
abbrev Cl := Value × (Addr → Value → Option Addr → TS)
def offN (i : Nat) (D : Ends) : Ends := { nx := fun σ H => D.nx (σ.set i none) H, rt := D.rt, bk := fun σ H => D.bk (σ.set i none) H, ct := fun σ H => D.ct (σ.set i none) H }
def wAsM (K : PySem.W.Frag) (i : Nat) (Wo : WX) (D : Ends) : List Cl → WX
  | [] => Wo
  | c :: r => fun cls d σ H => ∃ b, PySem.W.exmOne K cls c.1 = some b ∧ (b = true → ∀ a, H a = none → c.2 a cls d (offN i D) (σ.set i (some (.ref a))) H) ∧ (b = false → wAsM K i Wo D r cls d σ H)
inductive AsOk (X : Cx) (n : Str) : List ExceptHandler → List Cl → Prop
  | nil : AsOk X n [] []
  | cons {x : Str} {c : Value} {ts : Addr → Value → Option Addr → TS} {b0 : Stmt} {su : List Stmt} {np pp : Pos} {hds : List ExceptHandler} {l : List Cl} (hc : Names X x c)
      (hsu : ∀ (a : Addr) (oe : Obj) (cls : Value) (d : Option Addr) (pn : List (Addr × Obj)), Zc cls d oe → (∃ vs, oe.data = .fields vs) → PSs (X.suite a ((a, oe) :: pn)) (b0 :: su) (ts a cls d)) (r : AsOk X n hds l) :
      AsOk X n (.ExceptHandler (some (.Name x np)) (some n) (b0 :: su) pp :: hds) ((c, ts) :: l)
section
variable {X : Cx} {pins : List (Addr × Obj)} {σ : L2.St} {H : Hp} {i : Nat} {n : Str} {D : Ends} {Wo : WX} {B : Heap} {a : Addr} {cls : Value} {d : Option Addr} {sI s1 : Shared} {h3 : Heap}
/-! what is caught is in no frame -/
theorem caught_off {l : List Env} {h : Heap} {o : Obj} {vs : Array Value} (ff : h.FunFrames B l) (e : h.get? a = some o) (dd : o.data = .fields vs) : a ∉ frs l := fun m => by
  obtain ⟨_, o', e', no⟩ := ff.mem m
  rw [e] at e'; cases e'
  exact no _ dd
/-! the clauses, one behind another -/
theorem as_clauses (ok : X.Ok) (hs : X.stack = X.env :: X.outer) (hf : X.env.frame = some X.env.locals) (hN : X.N.Nodup) (hi : X.N[i]? = some n) (hln : X.env.kindOf n = some .local) (tk : Takes X Wo)
    (J : Inv X pins σ H sI) (nb : ∀ b o, sI.heap.get? b = some o → b ∉ frs X.stack → B.get? b = some o) (up : sI.heap.UpToSlots h3) (fl : HandSPX.FlyingZ B (X.env :: X.outer) a (Zc cls d) h3) (na : H a = none) (os : s1.os = sI.os) (ag : AllBare s1.gens) :
    ∀ {hds : List ExceptHandler} {l : List Cl}, AsOk X n hds l → wAsM X.K i Wo D l cls d σ H → wpAny (model X.prog X.w) X.A (handleBy (.ref a) X.env hds) (L2.SP X pins D) X.xe { s1 with heap := h3 } := by
  have J3 : Inv X pins σ H { s1 with heap := h3 } := J.landed nb fl.1 up os ag
  obtain ⟨oe, vs, he, hz, hd⟩ := fl.there
  have off := caught_off fl.2.2.1 he hd
  have nL : a ≠ X.env.locals := fun z => off (List.mem_filterMap.mpr ⟨X.env, List.mem_cons_self, by rw [hf, z]⟩)
  have nF : a ∉ X.fs := fun m => by
    obtain ⟨e, me, q⟩ := List.mem_filterMap.mp m
    exact off (List.mem_filterMap.mpr ⟨e, List.mem_cons_of_mem _ me, q⟩)
  have S3 := J3.suite he hd na nL nF
  intro hds l hk
  induction hk with
  | nil =>
    intro wish
    obtain ⟨_, _, _, oe', vs', T, oT, ts', he', _, hd', h1, _⟩ := id fl
    have fly : wpAny (model X.prog X.w) X.A (setFlight (.ref a) X.env.frame) (fun _ s4 => wpAny (model X.prog X.w) X.A (throw (.ref a) : Sem Flow) (L2.SP X pins D) X.xe s4) X.xe { s1 with heap := h3 } := by
      rw [hf]
      exact HandSPX.setFlight_upZ fl fun h4 held up4 => wpAny_throw (tk _ _ ⟨a, B, sI, pins, σ, H, cls, d, rfl, J, nb, up.trans up4, .inr (.inr (by rw [hs]; exact held)), na, os, ag, wish⟩)
    refine wpAny_handleBy_nil ?_
    unfold PySem.passOn
    refine wpAny_bind (wpAny_field he' hd' h1 ?_)
    rw [if_neg (show ¬ ((Value.ref T == Value.none) = true) by simp)]
    first | exact wpAny_bind fly | exact wpAny_bind (wpAny_pure (wpAny_bind fly))
  | @cons x c ts b0 su np pp hds2 l2 hc hsu _ ih =>
    intro wish
    obtain ⟨b, hb, yes, no⟩ := wish
    have ty : PySem.W.Looks (model X.prog X.w) h3 (typeOf (.ref a)) cls := fun _ _ _ _ k q => wpAny_typeOf_ref (k _ _ he) (by rw [hz.1]; exact q)
    have mt := PySem.W.exm_one (M := model X.prog X.w) J3.kIn ty hb
    have nam : ∀ {Q : Value → Shared → Prop} {E : Value → Shared → Prop}, Q c { s1 with heap := h3 } → wpAny (model X.prog X.w) (X.A.mark (some (.ref a))) (eval (.Name x np) X.env) Q E { s1 with heap := h3 } := fun {Q E} q => by
      obtain ⟨g1, g2, m | ⟨m1, m2, m3⟩⟩ := hc
      · exact ld_glob (X := X.suite a ((a, oe) :: (X.pn ++ pins))) S3 g1 m q g2
      · exact ld_blt (X := X.suite a ((a, oe) :: (X.pn ++ pins))) S3 g1 m1 m2 q m3 g2
    refine wpAny_handleBy_cons (codeAny_handlers_test (nam (mt.here ?_))) (fun q => by cases q)
    cases b with
    | false => exact ih (no rfl)
    | true =>
      refine codeAny_handlers_suite_as (HandSPX.lands_againZ fl fun h4 fl4 up4 => ?_)
      obtain ⟨o4, v4, he4, hz4, hd4⟩ := fl4.there
      have S4 := (J.landed (s' := { s1 with heap := h4 }) nb fl4.1 (up.trans up4) os ag).suite he4 hd4 na nL nF
      refine store_ok (X := X.suite a ((a, o4) :: (X.pn ++ pins))) (v := .ref a) S4 hN hi (.inl hln) rfl (fun s5 S5 => ?_) (.inr hln)
      refine wpAny_mono ((hsu a o4 cls d (X.pn ++ pins) hz4 ⟨_, hd4⟩).run [] s5 _ H _ S5 (yes rfl a na)) (fun f s6 sp => ?_) (fun _ _ z => False.elim z)
      have gone : ∀ {σ6 : L2.St} {H6 : Hp} {Q : Shared → Prop}, Inv (X.suite a ((a, o4) :: (X.pn ++ pins))) [] σ6 H6 s6 → (∀ s7, Inv X pins (σ6.set i none) H6 s7 → Q s7) → wpAny (model X.prog X.w) X.A (do bindName X.env n .none; unbindBehindTheSuite X.env n pp) (fun _ s7 => Q s7) X.xe s6 :=
        fun S6 hq => gone_ok (S6.unsuite ok) hN hi hln hq
      match f, sp with
      | .next, ⟨_, _, S6, q6⟩ => exact gone S6 fun s7 J7 => ⟨_, _, J7, q6⟩
      | .brk, ⟨_, _, S6, q6⟩ => exact gone S6 fun s7 J7 => ⟨_, _, J7, q6⟩
      | .cont, ⟨_, _, S6, q6⟩ => exact gone S6 fun s7 J7 => ⟨_, _, J7, q6⟩
      | .ret _, ⟨_, _, _, S6, r6, q6⟩ => exact gone S6 fun s7 J7 => ⟨_, _, _, J7, r6, q6⟩
end
section
variable {X : Cx} {n : Str} {i : Nat} {body : List Stmt} {h0 : ExceptHandler} {hds : List ExceptHandler} {l : List Cl} {pos : Pos} {tb : WX → TS} {Wo : WX}
theorem ps_try_asM (hs : X.stack = X.env :: X.outer) (hf : X.env.frame = some X.env.locals) (hN : X.N.Nodup) (hi : X.N[i]? = some n) (hln : X.env.kindOf n = some .local) (tk : Takes X Wo)
    (hb : ∀ (W : WX) (pn : List (Addr × Obj)) (xe : Value → Shared → Prop), Takes (X.tr pn xe) W → PSs (X.tr pn xe) body (tb W))
    (hh : AsOk X n (h0 :: hds) l) : PS X (.Try body (h0 :: hds) [] [] pos) (fun D σ H => tb (wAsM X.K i Wo D l) D σ H) := by
  refine ⟨fun pins s σ H D I h => wpAny_Try_except ?_⟩
  have fr : X.A.frames = some (X.env :: X.outer) := by rw [I.ok.frames, hs]
  refine wpAny_mono ((hb (wAsM X.K i Wo D l) (X.pn ++ pins) (fun e s1 => wpAny (model X.prog X.w) X.A (noteFrame e X.env) (fun _ s2 => wpAny (model X.prog X.w) X.A (setFlight e none) (fun _ s3 =>
    wpAny (model X.prog X.w) X.A (handleBy e X.env (h0 :: hds)) (L2.SP X pins D) X.xe s3) X.xe s2) X.xe s1) (fun u s1 air => ?_)).run [] s σ H D (I.toTry _) h) (fun f s1 sp => ?_) (fun _ _ he => he)
  · obtain ⟨a, B, sI, pins', σ', H', cls, d, rfl, J', nb, up, sky, na, os, ag, wish⟩ := air
    have sky2 : Sky B (X.env :: X.outer) a (Zc cls d) X.env.locals s1.heap := by rw [← hs]; exact sky
    exact Sky.land Zc.steady fr hf sky2 fun h3 fl up3 => as_clauses (s1 := s1) I.ok hs hf hN hi hln tk (J'.ofTry I.ok) nb (up.trans up3) fl na os ag hh wish
  · match f, sp with
    | .next, ⟨σ', H', J', q⟩ => exact wpAny_execs_nil ⟨σ', H', J'.ofTry I.ok, q⟩
    | .brk, ⟨σ', H', J', q⟩ => exact ⟨σ', H', J'.ofTry I.ok, q⟩
    | .cont, ⟨σ', H', J', q⟩ => exact ⟨σ', H', J'.ofTry I.ok, q⟩
    | .ret _, ⟨v, σ', H', J', r, q⟩ => exact ⟨v, σ', H', J'.ofTry I.ok, r, q⟩
end
/-! ### isinstance of what was caught -/
structure ExI (K : PySem.W.Frag) (C : Addr) : Prop where
  cl : (PySem.W.clsIn K C).isSome = true
  ga : PySem.W.findIn K (.ref C) "__getattribute__" = some (some (.builtin "BaseException.__getattribute__"))
  gg : PySem.W.findIn K (.ref C) "__getattr__" = some none
  sb : PySem.W.subIn K (.ref C) (.type "BaseException") = some true
  cc : PySem.W.findIn K (.ref C) "__class__" = some (some (.builtin "object.__class__"))
  gs : PySem.W.specialIn K (.builtin "object.__class__") "__get__" = some (some (.builtin "getset_descriptor.__get__"))
  tk : PySem.W.takesIn K (.builtin "object.__class__") = some true
  mo : PySem.W.mroIn K C (.type "object") = some true
section
variable {X : Cx} {a C : Addr} {oe : Obj} {d : Option Addr} {pn : List (Addr × Obj)}
/-! the caught one, as the library's isinstance wants it -/
theorem caught_inst {pins : List (Addr × Obj)} {σ : L2.St} {H : Hp} {s : Shared} (I : Inv (X.suite a ((a, oe) :: pn)) pins σ H s) (hz : Zc (.ref C) d oe) (hf : ∃ vs, oe.data = .fields vs) (hd : ∀ dd, d = some dd → ∃ fs, H dd = some (.xd fs)) : ∃ od, PySem.W.InstAt s.heap a oe C od := by
  obtain ⟨ha, _⟩ := I.pin (a, oe) (List.mem_append_left _ List.mem_cons_self)
  obtain ⟨vs, ev⟩ := hf
  have nc : PySem.W.notCls oe = true := by unfold PySem.W.notCls; rw [ev] <;> rfl
  cases d with
  | none => exact ⟨none, ha, hz.1, nc, by rw [hz.2]; trivial⟩
  | some dd =>
    obtain ⟨fs, e⟩ := hd dd rfl
    have hx : ObjOk X.prog X.w H s.heap dd (.xd fs) := I.hok dd _ e
    obtain ⟨mA, hns, _⟩ := hx
    obtain ⟨od, ho, _⟩ := lookIn_ns hns
    exact ⟨some od, ha, hz.1, nc, by rw [hz.2]; exact ho⟩
def rIsX (K : PySem.W.Frag) (C a : Addr) (cls : Value) (d : Option Addr) : List V → Hp → VK → Prop := fun xs H Q => cls = .ref C ∧ (∀ dd, d = some dd → ∃ fs, H dd = some (.xd fs)) ∧
  ((∃ (c : Addr) (b : Bool), xs = [.ref a, .ref c] ∧ PySem.W.kitOne K (.ref C) (.ref c) = some b ∧ Q (.bl b) H) ∨
    ∃ (tp : Addr) (cs : List Addr) (b : Bool), xs = [.ref a, .ref tp] ∧ H tp = some (.tup (cs.map V.ref)) ∧ PySem.W.kitAny K (.ref C) (cs.map Value.ref) = some b ∧ Q (.bl b) H)
theorem vals_refs : ∀ {cs : List Addr} {us : List Value}, Vals (cs.map V.ref) us → us = cs.map Value.ref
  | [], _, r => by cases r; rfl
  | c :: cs, _, r => by
    cases r with
    | cons r1 r2 => cases r1; rw [vals_refs r2]; rfl
theorem call_isX {cls : Value} (T : ExI X.K C) (hz : Zc cls d oe) (hf : ∃ vs, oe.data = .fields vs) : CallR (X.suite a ((a, oe) :: pn)) (.builtin "isinstance") (rIsX X.K C a cls d) := by
  intro pins s σ H xs us Q I r h
  obtain ⟨rfl, hd, h⟩ := h
  obtain ⟨od, J⟩ := caught_inst I hz hf hd
  have kx := PySem.W.kitx_exc (x := a) (ox := oe) (od := od) T.cl T.ga T.gg T.sb T.cc T.gs T.tk T.mo
  rcases h with ⟨c, b, rfl, e, q⟩ | ⟨tp, cs, b, rfl, et, e, q⟩
  · obtain ⟨u1, u2, rfl, r1, r2⟩ := vals2 r
    cases r1; cases r2
    exact PySem.W.kia_one kx I.kIn J e (fun z => nomatch z) fun tk => ⟨.bl b, H, I.kept (t' := tk) fun _ _ z => z, rfl, q⟩
  · obtain ⟨u1, u2, rfl, r1, r2⟩ := vals2 r
    cases r1; cases r2
    obtain ⟨its, rv, ⟨o, ho, hc, m, hdt⟩, _⟩ := I.tuple (SqT.of et)
    obtain rfl := vals_refs rv
    obtain ⟨oc, odd, odt, osl⟩ := o
    dsimp only at hc hdt
    subst hc hdt
    exact PySem.W.kia_tup kx I.kIn J ho e (fun z => nomatch z) fun tk => ⟨.bl b, H, I.kept (t' := tk) fun _ _ z => z, rfl, q⟩
end
end Rw

namespace Rw
open PySem PySem.Spec PyProof.Rows L2 TL
/-! ### repr of anything small, an empty dict too -/
structure Shw (d : PyData) : Prop where
  sh : d.showable = true
  dp : d.depth ≤ 60
  ln : d.shown.length ≤ 100000
  ly : d.canLay0 = true ∨ d = .dict []
theorem Sw.shw {k n : Nat} {d : PyData} (h : Sw k n d) (hk : k ≤ 60) (hn : n ≤ 100000) : Shw d := ⟨h.sh, Nat.le_trans h.dp hk, Nat.le_trans h.ln hn, .inl h.lay⟩
section
variable {X : Cx} {pins : List (Addr × Obj)} {σ : L2.St} {H : Hp} {s : Shared} {av : List Addr}
theorem no_dict_told (I : Inv X pins σ H s) {v : V} {u : Value} (h : Dt av H v (.dict [])) (r : RelV v u) : ∃ as, Reads s.heap u (.dict []) as ∧ sysModules ∉ as := by
  cases h with
  | dct na e =>
    cases r
    obtain ⟨_, nsm, vs, kv, o, es, ep, ho, ex, hd, _, pr, _⟩ := I.hok _ _ e
    cases kv
    have e0 : es.toList = [] := by
      cases hq : es.toList with
      | nil => rfl
      | cons y ys => rw [hq] at pr; cases pr
    refine ⟨_, .dict (kvs := []) ho ex.1 hd (as := []) (bs := []) (by rw [e0]; exact .nil) (by rw [e0]; exact .nil), fun q => ?_⟩
    simp only [List.append_nil, List.mem_cons, List.not_mem_nil, or_false] at q
    rw [← q] at nsm
    exact absurd nsm (by decide)
end
section
variable {X : Cx}
def rReprA : List V → Hp → VK → Prop := fun xs H Q => ∃ (v : V) (d : PyData) (av : List Addr), xs = [v] ∧ Dt av H v d ∧ Shw d ∧ Q (.str d.shown) H
theorem cr_reprA (hg : X.A.guards = some []) (hu : X.A.units + 70 < cLine) : CallR X (.builtin "repr") rReprA := by
  intro pins s σ H xs us Q I r h
  obtain ⟨v, d, av, rfl, hd, sw, q⟩ := h
  obtain ⟨u, rfl, ru⟩ := vals1 r
  have e1 := sw.dp
  have e2 := sw.ln
  have e3 := sw.sh
  have sz : (100000 : Nat) ≤ sizeLine := by decide
  have big : ∀ {a : Addr}, v = .ref a → wpAny (model X.prog X.w) X.A (call (.builtin "repr") [u]) (EP X pins σ Q) X.xe s := fun {a} ev => by
    subst ev
    rcases sw.ly with ly | rfl
    · obtain ⟨as, rd⟩ := Dp.reads I d _ _ (Dt.dp d _ hd ly) ru
      cases ru
      exact repr_of_reads' rd e3 (PyData.noDict_hsm (PyData.hasDict_of_canLay d ly)) hg (by omega) (fun _ _ e => e) (fun h' t tk k => ⟨.str d.shown, H, I.kept (t' := tk) k, ⟨t, rfl⟩, q⟩) (by omega)
    · obtain ⟨as, rd, na⟩ := no_dict_told I hd ru
      cases ru
      exact repr_of_reads' rd e3 (fun _ => na) hg (by omega) (fun _ _ e => e) (fun h' t tk k => ⟨.str _, H, I.kept (t' := tk) k, ⟨t, rfl⟩, q⟩) (by omega)
  cases hd with
  | non => cases ru; rw [PyData.shown_none] at q; exact PySem.P.repr_of_none ⟨.str _, H, I.tok _, ⟨_, rfl⟩, q⟩
  | bl b => cases ru; rw [PyData.shown_bool] at q; exact PySem.P.repr_of_bool ⟨.str _, H, I.tok _, ⟨_, rfl⟩, by cases b <;> exact q⟩
  | int i =>
    obtain ⟨t, rfl⟩ := ru
    rw [PyData.shown_int] at q
    exact PySem.P.repr_of_int (by simpa only [PyData.showable, decide_eq_true_eq] using e3) ⟨.str _, H, I.tok _, ⟨_, rfl⟩, q⟩
  | str x =>
    obtain ⟨t, rfl⟩ := ru
    rw [PyData.shown_str] at q e2
    exact PySem.P.repr_of_str ⟨.str _, H, I.tok _, ⟨_, rfl⟩, q⟩ (by omega)
  | lst _ _ _ => exact big rfl
  | tup _ _ _ => exact big rfl
  | dct _ _ => exact big rfl
end
theorem units70m {k : Nat} {A : Around} {h : Option Value} (r : Room k A) : (A.mark h).units + 70 < cLine := by have := r.un; show A.units + 70 < cLine; omega
end Rw

namespace Rw
open PySem PySem.Spec PyProof.Rows L2 TL
/-! ### repr of any of the data: lists and dicts at any depth, but not both -/
mutual
def nlB : PyData → Bool
  | .list _ => false
  | .tuple ds => nlAll ds
  | _ => true
def nlAll : List PyData → Bool
  | [] => true
  | d :: ds => nlB d && nlAll ds
end
section
variable {X : Cx} {pins : List (Addr × Obj)} {σ : L2.St} {H : Hp} {s : Shared} {av : List Addr}
mutual
theorem Dt.readsG (I : Inv X pins σ H s) : ∀ (d : PyData) (v : V) (u : Value), Dt av H v d → RelV v u → ∃ as, Reads s.heap u d as ∧ (nlB d = true → sysModules ∉ as)
  | _, _, _, .non, r => by cases r; exact ⟨_, .none, fun _ => List.not_mem_nil⟩
  | _, _, _, .bl b, r => by cases r; exact ⟨_, .bool b, fun _ => List.not_mem_nil⟩
  | _, _, _, .int i, r => by obtain ⟨t, rfl⟩ := r; exact ⟨_, .int i t, fun _ => List.not_mem_nil⟩
  | _, _, _, .str x, r => by obtain ⟨t, rfl⟩ := r; exact ⟨_, .str x t, fun _ => List.not_mem_nil⟩
  | .list ds, _, _, .lst n e h, r => by
    cases r
    obtain ⟨its, rv, ⟨o, m, ho, hc, _, hd⟩, _⟩ := I.list (SqL.of e)
    obtain ⟨as, q, _⟩ := Dts.readsG I ds _ its h rv
    exact ⟨_, .list ho hc hd q, fun z => by simp only [nlB] at z; cases z⟩
  | .tuple ds, _, _, .tup n e h, r => by
    cases r
    obtain ⟨its, rv, ⟨o, ho, hc, m, hd⟩, _⟩ := I.tuple (SqT.of e)
    obtain ⟨as, q, ns⟩ := Dts.readsG I ds _ its h rv
    exact ⟨_, .tuple ho hc hd q, fun z => ns (by simpa only [nlB] using z)⟩
  | .dict _, _, _, .dct n e, r => by
    obtain ⟨as, q, ns⟩ := no_dict_told I (Dt.dct n e) r
    exact ⟨as, q, fun _ => ns⟩
theorem Dts.readsG (I : Inv X pins σ H s) : ∀ (ds : List PyData) (vs : List V) (us : List Value), Dts av H vs ds → Vals vs us → ∃ as, ReadsAll s.heap us ds as ∧ (nlAll ds = true → sysModules ∉ as)
  | [], _, _, .nil, r => by cases r; exact ⟨_, .nil, fun _ => List.not_mem_nil⟩
  | d :: ds, _, _, .cons h t, r => by
    cases r with
    | cons r1 r2 =>
      obtain ⟨as, q1, n1⟩ := Dt.readsG I d _ _ h r1
      obtain ⟨bs, q2, n2⟩ := Dts.readsG I ds _ _ t r2
      refine ⟨_, .cons q1 q2, fun z => ?_⟩
      simp only [nlAll, Bool.and_eq_true] at z
      exact fun m => (List.mem_append.mp m).elim (n1 z.1) (n2 z.2)
end
end
structure ShG (d : PyData) : Prop where
  sh : d.showable = true
  dp : d.depth ≤ 60
  ln : d.shown.length ≤ 100000
  ly : d.hasDict = true → nlB d = true
section
variable {X : Cx}
def rReprG : List V → Hp → VK → Prop := fun xs H Q => ∃ (v : V) (d : PyData) (av : List Addr), xs = [v] ∧ Dt av H v d ∧ ShG d ∧ Q (.str d.shown) H
theorem cr_reprG (hg : X.A.guards = some []) (hu : X.A.units + 70 < cLine) : CallR X (.builtin "repr") rReprG := by
  intro pn s σ H xs us Q I r h
  obtain ⟨v, d, av, rfl, hd, sw, q⟩ := h
  obtain ⟨u, eu, ru⟩ := vals1 r
  subst eu
  obtain ⟨as, rd, ns⟩ := Dt.readsG I d v u hd ru
  have e1 := sw.dp
  have e2 := sw.ln
  have e3 := sw.sh
  have sz : (100000 : Nat) ≤ sizeLine := by decide
  have big : ∀ {a : Addr}, v = .ref a → wpAny (model X.prog X.w) X.A (call (.builtin "repr") [u]) (EP X pn σ Q) X.xe s := fun {a} ev => by
    subst ev
    cases ru
    exact repr_of_reads' rd e3 (fun z => ns (sw.ly z)) hg (by omega) (fun _ _ e => e) (fun h' t tk k => ⟨.str d.shown, H, I.kept (t' := tk) k, ⟨t, rfl⟩, q⟩) (by omega)
  cases hd with
  | non => cases ru; rw [PyData.shown_none] at q; exact PySem.P.repr_of_none ⟨.str _, H, I.tok _, ⟨_, rfl⟩, q⟩
  | bl b => cases ru; rw [PyData.shown_bool] at q; exact PySem.P.repr_of_bool ⟨.str _, H, I.tok _, ⟨_, rfl⟩, by cases b <;> exact q⟩
  | int i =>
    obtain ⟨t, rfl⟩ := ru
    rw [PyData.shown_int] at q
    exact PySem.P.repr_of_int (by simpa only [PyData.showable, decide_eq_true_eq] using e3) ⟨.str _, H, I.tok _, ⟨_, rfl⟩, q⟩
  | str x =>
    obtain ⟨t, rfl⟩ := ru
    rw [PyData.shown_str] at q e2
    exact PySem.P.repr_of_str ⟨.str _, H, I.tok _, ⟨_, rfl⟩, q⟩ (by omega)
  | _ => exact big rfl
end
end Rw

namespace Rw
open PySem PySem.Spec PyProof.Rows L2
/-! ### the name of a place along a pipe -/
end Rw

namespace Rw
open PySem PySem.Spec PyProof.Rows L2
/-! ### the places next to each place, in a dict -/
def keyOf (p : Pl) : List Key := p.map Sum.inl
theorem keyOf_kV (p : Pl) : (keyOf p).map kV = p.map V.int := by unfold keyOf; rw [List.map_map]; rfl
theorem keyOf_inj {p q : Pl} (h : keyOf p = keyOf q) : p = q := by
  unfold keyOf at h
  have f : ∀ l : Pl, (l.map (Sum.inl : Int → Key)).map (fun k => match k with | .inl i => i | .inr _ => 0) = l := fun l => by
    rw [List.map_map]; exact (List.map_congr_left fun _ _ => rfl).trans (List.map_id l)
  rw [← f p, ← f q, h]
def Bes (av : List Addr) (G : Hp) (kvs : List (List Key × V)) (R : Pl → Pl → Prop) (n : Int) (ps : List Pi) (m : Nat) : Prop :=
  kvs.length ≤ m ∧ (∀ kv ∈ kvs, ∃ p, okP n ps p ∧ kv.1 = keyOf p) ∧ ∀ p : Pl, (valV kvs (keyOf p) = none ∧ ∀ q, ¬ R p q) ∨
    ∃ (L : Addr) (us : List V) (qs : List Pl), valV kvs (keyOf p) = some (.ref L) ∧ L ∉ av ∧ G L = some (.lst us) ∧ Dts av G us (qs.map tupI) ∧ us.length ≤ m ∧ qs.Nodup ∧ ∀ q, q ∈ qs ↔ R p q
theorem Bes.keep {av : List Addr} {G G' : Hp} {kvs : List (List Key × V)} {R : Pl → Pl → Prop} {n : Int} {ps : List Pi} {m : Nat} (h : Bes av G kvs R n ps m) (k : Keep av G G') : Bes av G' kvs R n ps m := by
  refine ⟨h.1, h.2.1, fun p => ?_⟩
  rcases h.2.2 p with z | ⟨L, us, qs, h1, h2, h3, h4, h5⟩
  · exact .inl z
  · exact .inr ⟨L, us, qs, h1, h2, k L _ h3 h2, h4.keep k, h5⟩
theorem Bes.put {av : List Addr} {G : Hp} {kvs : List (List Key × V)} {R R' : Pl → Pl → Prop} {n : Int} {ps : List Pi} {m : Nat} (h : Bes av G kvs R n ps m) {p : Pl} {L : Addr} {us : List V} {qs : List Pl} (ok : okP n ps p) (nL : L ∉ av) (eL : G L = some (.lst us)) (du : Dts av G us (qs.map tupI)) (lu : us.length ≤ m + 1) (ndq : qs.Nodup)
    (hq : ∀ q, q ∈ qs ↔ R' p q) (ho : ∀ p', p' ≠ p → ∀ q, R' p' q ↔ R p' q) : Bes av G (putK kvs (keyOf p) (.ref L)) R' n ps (m + 1) := by
  refine ⟨Nat.le_trans (DSub.putK_len _ _ _) (Nat.add_le_add_right h.1 1), fun kv hkv => ?_, fun p' => ?_⟩
  · unfold putK at hkv
    split at hkv
    · obtain ⟨kv', m', e⟩ := List.mem_map.mp hkv
      obtain ⟨r, o, er⟩ := h.2.1 kv' m'
      refine ⟨r, o, ?_⟩
      rw [← e]
      split <;> exact er
    · rcases List.mem_append.mp hkv with z | z
      · exact h.2.1 kv z
      · rw [List.mem_singleton.mp z]; exact ⟨p, ok, rfl⟩
  · rw [valV_put]
    by_cases e : p' = p
    · subst e
      rw [if_pos rfl]
      exact .inr ⟨L, us, qs, rfl, nL, eL, du, lu, ndq, hq⟩
    · rw [if_neg (fun z => e (keyOf_inj z))]
      rcases h.2.2 p' with z | ⟨L', us', qs', h1, h2, h3, h4, h5, h7, h6⟩
      · exact .inl ⟨z.1, fun q w => z.2 q ((ho p' e q).mp w)⟩
      · exact .inr ⟨L', us', qs', h1, h2, h3, h4, by omega, h7, fun q => (h6 q).trans (ho p' e q).symm⟩
/-! what get tells, with a new empty list as the other answer -/
theorem Bes.get {av : List Addr} {G : Hp} {kvs : List (List Key × V)} {R : Pl → Pl → Prop} {n : Int} {ps : List Pi} {m : Nat} (h : Bes av G kvs R n ps m) (tr : Tr av G) {E : Addr} (nE : G E = none) (p : Pl) :
    ∃ (L : Addr) (us : List V) (qs : List Pl), (valV kvs (keyOf p)).getD (.ref E) = .ref L ∧ (upd G E (.lst [])) L = some (.lst us) ∧ Dts av (upd G E (.lst [])) us (qs.map tupI) ∧ us.length ≤ m ∧ qs.Nodup ∧ ∀ q, q ∈ qs ↔ R p q := by
  rcases h.2.2 p with ⟨z1, z2⟩ | ⟨L, us, qs, h1, h2, h3, h4, h5, h6⟩
  · exact ⟨E, [], [], by rw [z1]; rfl, upd_same, .nil, Nat.zero_le _, List.nodup_nil, fun q => ⟨fun w => absurd w List.not_mem_nil, fun w => absurd w (z2 q)⟩⟩
  · exact ⟨L, us, qs, by rw [h1]; rfl, by rw [upd_ne (ne_of_none h3 nE)]; exact h3, h4.keep (Keep.new nE), h5, h6⟩
theorem bes_put2 {H J : Hp} {Fd E L1 N : Addr} {av : List Addr} {kvs : List (List Key × V)} {R : Pl → Pl → Prop} {n : Int} {ps : List Pi} {m : Nat} {p q : Pl} {us0 : List V} {qs0 : List Pl} {vq : V} (nF : H Fd = none) (kH : Keep [] H J) (tJ : Tr (Fd :: av) J) (eF : J Fd = some (.dT kvs)) (bF : Bes (Fd :: av) J kvs R n ps m)
    (rF : ∀ r : Int, 0 ≤ r → r < n → valV kvs (keyOf [r]) ≠ none) (ok : okP n ps p) (dq : Dt (Fd :: av) J vq (tupI q)) (nE : J E = none) (nL : (upd J E (.lst [])) L1 = none) (nN : (upd (upd J E (.lst [])) L1 (.lst [vq])) N = none) (d0 : Dts (Fd :: av) (upd J E (.lst [])) us0 (qs0.map tupI)) (l0 : us0.length ≤ m) (h0 : qs0.Nodup ∧ ∀ z, z ∈ qs0 ↔ R p z) (nR : ¬ R p q) :
    ∀ G4, G4 = upd (upd (upd (upd J E (.lst [])) L1 (.lst [vq])) N (.lst (us0 ++ [vq]))) Fd (.dT (putK kvs (keyOf p) (.ref N))) → Keep [Fd] J G4 ∧ Keep [] H G4 ∧ Tr (Fd :: av) G4 ∧ G4 Fd = some (.dT (putK kvs (keyOf p) (.ref N))) ∧ Bes (Fd :: av) G4 (putK kvs (keyOf p) (.ref N)) (fun a b => R a b ∨ (a = p ∧ b = q)) n ps (m + 1) ∧ ∀ r : Int, 0 ≤ r → r < n → valV (putK kvs (keyOf p) (.ref N)) (keyOf [r]) ≠ none := by
  rintro _ rfl
  have kE : Keep [] J (upd J E (.lst [])) := Keep.new nE
  have kL : Keep [] (upd J E (.lst [])) (upd (upd J E (.lst [])) L1 (.lst [vq])) := Keep.new nL
  have kN : Keep [] (upd (upd J E (.lst [])) L1 (.lst [vq])) (upd (upd (upd J E (.lst [])) L1 (.lst [vq])) N (.lst (us0 ++ [vq]))) := Keep.new nN
  have k3 := kE.trans (kL.trans kN)
  have t2 : Tr (Fd :: av) (upd (upd J E (.lst [])) L1 (.lst [vq])) := (tJ.upd).upd
  refine ⟨k3.of.trans (Keep.put List.mem_cons_self), (kH.trans k3).upd nF, (t2.upd).upd, upd_same, ?_, fun r r0 r1 => ?_⟩
  · refine ((bF.keep k3.of).put (R' := fun a b => R a b ∨ (a = p ∧ b = q)) (p := p) (L := N) (us := us0 ++ [vq]) (qs := qs0 ++ [q]) ok (t2.not nN) upd_same ?_ (by rw [List.length_append]; exact Nat.add_le_add_right l0 1) (List.nodup_append.mpr ⟨h0.1, by simp, fun a ha b hb z => nR ((h0.2 q).mp (by rw [← List.mem_singleton.mp hb, ← z]; exact ha))⟩) (fun z => ?_) (fun p' ne z => ?_)).keep (Keep.put List.mem_cons_self)
    · rw [List.map_append]
      exact ((d0.keep (kL.trans kN).of).app (.cons (dq.keep k3.of) .nil))
    · rw [List.mem_append, List.mem_singleton, h0.2 z]
      exact ⟨fun w => w.elim .inl (fun e => .inr ⟨rfl, e⟩), fun w => w.elim .inl (fun e => .inr e.2)⟩
    · exact ⟨fun w => w.elim id (fun e => absurd e.1 ne), .inl⟩
  · rw [valV_put]
    split
    · intro z; cases z
    · exact rF r r0 r1
end Rw

namespace Rw
open PySem PySem.Spec PyProof.Rows L2
/-! ### going through a house from a place -/
theorem nodup_le {α : Type} [DecidableEq α] : ∀ (F L : List α), F.Nodup → (∀ x ∈ F, x ∈ L) → F.length ≤ L.length
  | [], _, _, _ => Nat.zero_le _
  | x :: F, L, nd, h => by
    have nd' := List.nodup_cons.mp nd
    have m := h x List.mem_cons_self
    have e := List.length_erase_of_mem m
    have p := List.length_pos_of_mem m
    have := nodup_le F (L.erase x) nd'.2 (fun y hy => (List.mem_erase_of_ne (fun z : y = x => nd'.1 (by rw [← z]; exact hy))).mpr (h y (List.mem_cons_of_mem _ hy)))
    rw [List.length_cons]; omega
theorem Bes.less {av av' : List Addr} {G : Hp} {kvs : List (List Key × V)} {R : Pl → Pl → Prop} {n : Int} {ps : List Pi} {m : Nat} (h : Bes av G kvs R n ps m) (s : ∀ a ∈ av', a ∈ av) : Bes av' G kvs R n ps m := by
  refine ⟨h.1, h.2.1, fun p => ?_⟩
  rcases h.2.2 p with z | ⟨L, us, qs, h1, h2, h3, h4, h5⟩
  · exact .inl z
  · exact .inr ⟨L, us, qs, h1, fun m => h2 (s _ m), h3, h4.less s, h5⟩
theorem Bes.more {av : List Addr} {G : Hp} {kvs : List (List Key × V)} {R : Pl → Pl → Prop} {n : Int} {ps : List Pi} {m : Nat} {p : Addr} (h : Bes av G kvs R n ps m) (np : G p = none) : Bes (p :: av) G kvs R n ps m := by
  refine ⟨h.1, h.2.1, fun q => ?_⟩
  rcases h.2.2 q with z | ⟨L, us, qs, h1, h2, h3, h4, h5⟩
  · exact .inl z
  · exact .inr ⟨L, us, qs, h1, fun m => (List.mem_cons.mp m).elim (ne_of_none h3 np) h2, h3, h4.more np, h5⟩
theorem Rd.keep {av : List Addr} {H H' : Hp} {a : Addr} {o : HO} (h : Rd H a o) (na : a ∉ av) (k : Keep av H H') : Rd H' a o := by
  rcases h with e | ⟨u, e⟩
  · exact .inl (k a _ e na)
  · exact .inr ⟨u, k a _ e na⟩
theorem bes_key {av : List Addr} {G : Hp} {kvs : List (List Key × V)} {n : Int} {ps : List Pi} {d : Int → Int → Int} {m : Nat} (T : Tm n ps d) (h : Bes av G kvs (Adj ps) n ps m) (rk : ∀ r, 0 ≤ r → r < n → valV kvs (keyOf [r]) ≠ none) {p : Pl} (ok : okP n ps p) : valV kvs (keyOf p) ≠ none := by
  rcases ok_cases ok with ⟨r, rfl, r0, r1⟩ | ⟨i, a, rfl, h0, h1, a0, a1⟩
  · exact rk r r0 r1
  · intro z
    rcases h.2.2 [i, a] with ⟨_, z2⟩ | ⟨L, _, _, e, _⟩
    · exact z2 (nm ps i (a + 1)) ⟨i, a, h0, h1, by omega, by omega, .inl ⟨(nm_mid (by omega) (by omega)).symm, rfl⟩⟩
    · rw [z] at e; cases e
/-! what was found, in its order; the first t were gone through -/
structure SP (n : Int) (ps : List Pi) (d : Int → Int → Int) (s : Pl) (F : List Pl) (t : Nat) (qs : List Pl) : Prop where
  nd : F.Nodup
  ok : ∀ p ∈ F, okP n ps p
  src : s ∈ F
  par : Pard s (Dp ps d s) (fun p q w => Adj ps p q ∧ w = 1) F
  le : t ≤ F.length
  cl : ∀ (j : Nat) (u : Pl), j < t → F[j]? = some u → ∀ v, Adj ps u v → v ∈ F
  now : ∀ q ∈ qs, q ∈ F
theorem SP.first {n : Int} {ps : List Pi} {d : Int → Int → Int} {s : Pl} (hs : okP n ps s) : SP n ps d s [s] 0 [] where
  nd := by simp
  ok := fun p hp => by rw [List.mem_singleton.mp hp]; exact hs
  src := List.mem_cons_self
  par := fun v hv nv => absurd (List.mem_singleton.mp hv) nv
  le := Nat.zero_le _
  cl := fun j u hj => absurd hj (Nat.not_lt_zero _)
  now := fun q hq => absurd hq List.not_mem_nil
theorem SP.have {n : Int} {ps : List Pi} {d : Int → Int → Int} {s v : Pl} {F : List Pl} {t : Nat} {qs : List Pl} (S : SP n ps d s F t qs) (hv : v ∈ F) : SP n ps d s F t (qs ++ [v]) :=
  ⟨S.nd, S.ok, S.src, S.par, S.le, S.cl, fun q hq => (List.mem_append.mp hq).elim (S.now q) (fun z => by rw [List.mem_singleton.mp z]; exact hv)⟩
theorem SP.add {n : Int} {ps : List Pi} {d : Int → Int → Int} {s h v : Pl} {F : List Pl} {t : Nat} {qs : List Pl} (T : Tm n ps d) (S : SP n ps d s F t qs) (hh : h ∈ F) (nv : v ∉ F) (e : Adj ps h v) : SP n ps d s (F ++ [v]) t (qs ++ [v]) ∧ Dp ps d s v = Dp ps d s h + 1 := by
  have R := T.places (S.ok s S.src)
  have dv := R.found S.par hh (S.ok h hh) ⟨e, rfl⟩ nv
  refine ⟨⟨?_, ?_, List.mem_append_left _ S.src, S.par.snoc hh ⟨e.symm, rfl⟩ dv, by have := S.le; rw [List.length_append]; omega, ?_, ?_⟩, dv⟩
  · refine List.nodup_append.mpr ⟨S.nd, by simp, fun a ha b hb z => ?_⟩
    rw [List.mem_singleton.mp hb] at z
    exact nv (z ▸ ha)
  · intro p hp
    rcases List.mem_append.mp hp with m | m
    · exact S.ok p m
    · rw [List.mem_singleton.mp m]; exact ok_adj T e
  · intro j u hj gu x ex
    have c : j < F.length := Nat.lt_of_lt_of_le hj S.le
    rw [List.getElem?_append_left c] at gu
    exact List.mem_append_left _ (S.cl j u hj gu x ex)
  · intro q hq
    rcases List.mem_append.mp hq with m | m
    · exact List.mem_append_left _ (S.now q m)
    · exact List.mem_append_right _ m
theorem SP.done {n : Int} {ps : List Pi} {d : Int → Int → Int} {s h : Pl} {F : List Pl} {t : Nat} {qs : List Pl} (S : SP n ps d s F t qs) (gh : F[t]? = some h) (hq : ∀ q, Adj ps h q → q ∈ qs) : SP n ps d s F (t + 1) [] where
  nd := S.nd
  ok := S.ok
  src := S.src
  par := S.par
  le := (List.getElem?_eq_some_iff.mp gh).1
  cl := fun j u hj gu v e => by
    by_cases c : j < t
    · exact S.cl j u c gu v e
    · have ej : j = t := by omega
      subst ej
      rw [gh] at gu; cases gu
      exact S.now v (hq v e)
  now := fun q hq => absurd hq List.not_mem_nil
theorem SP.all {n : Int} {ps : List Pi} {d : Int → Int → Int} {s : Pl} {F : List Pl} (T : Tm n ps d) (S : SP n ps d s F F.length []) {p : Pl} (ok : okP n ps p) : p ∈ F := by
  refine (T.places (S.ok s S.src)).all S.src (fun u hu v w e => ?_) _ p ok (Nat.lt_succ_self _)
  obtain ⟨j, gj⟩ := List.mem_iff_getElem?.mp hu
  exact S.cl j u (List.getElem?_eq_some_iff.mp gj).1 gj v e.1
def ParE (G : Hp) (ps : List Pi) (d : Int → Int → Int) (s p : Pl) (o : V) : Prop := (p = s ∧ o = .non) ∨ ∃ (Tu : Addr) (u : Pl), o = .ref Tu ∧ G Tu = some (.tup (u.map V.int)) ∧ Adj ps p u ∧ Dp ps d s p = Dp ps d s u + 1
theorem ParE.keep {G G' : Hp} {ps : List Pi} {d : Int → Int → Int} {s p : Pl} {o : V} (h : ParE G ps d s p o) (k : ∀ b xs, G b = some (.tup xs) → G' b = some (.tup xs)) : ParE G' ps d s p o := by
  rcases h with z | ⟨Tu, u, h1, h2, h3⟩
  · exact .inl z
  · exact .inr ⟨Tu, u, h1, k Tu _ h2, h3⟩
def FoundE (G : Hp) (gk : List (List Key × V)) (F : List Pl) (ps : List Pi) (d : Int → Int → Int) (s : Pl) : Prop :=
  gk.length = F.length ∧ (∀ p ∈ F, ∃ (T : Addr) (o : V), valV gk (keyOf p) = some (.ref T) ∧ G T = some (.tup [.int (Dp ps d s p), o]) ∧ ParE G ps d s p o) ∧ ∀ p, p ∉ F → valV gk (keyOf p) = none
theorem FoundE.keep {G G' : Hp} {gk : List (List Key × V)} {F : List Pl} {ps : List Pi} {d : Int → Int → Int} {s : Pl} (h : FoundE G gk F ps d s) (k : ∀ b xs, G b = some (.tup xs) → G' b = some (.tup xs)) : FoundE G' gk F ps d s := by
  refine ⟨h.1, fun p hp => ?_, h.2.2⟩
  obtain ⟨T, o, h1, h2, h3⟩ := h.2.1 p hp
  exact ⟨T, o, h1, k T _ h2, h3.keep k⟩
theorem FoundE.put {G : Hp} {gk : List (List Key × V)} {F : List Pl} {ps : List Pi} {d : Int → Int → Int} {s v : Pl} {T : Addr} {o : V} (h : FoundE G gk F ps d s) (nv : v ∉ F) (eT : G T = some (.tup [.int (Dp ps d s v), o])) (pe : ParE G ps d s v o) : FoundE G (putK gk (keyOf v) (.ref T)) (F ++ [v]) ps d s := by
  obtain ⟨h1, h2, h3⟩ := h
  refine ⟨?_, fun t ht => ?_, fun t ht => ?_⟩
  · rw [putK_new _ (h3 v nv), List.length_append, List.length_append, h1]; rfl
  · rw [valV_put]
    by_cases e : t = v
    · rw [e, if_pos rfl]; exact ⟨T, o, rfl, eT, pe⟩
    · rw [if_neg (fun z => e (keyOf_inj z))]
      rcases List.mem_append.mp ht with m | m
      · exact h2 t m
      · exact absurd (List.mem_singleton.mp m) e
  · rw [valV_put, if_neg (fun z => ht (by rw [keyOf_inj z]; exact List.mem_append_right _ List.mem_cons_self))]
    exact h3 t (fun z => ht (List.mem_append_left _ z))
theorem SP.few {av : List Addr} {G : Hp} {kvs : List (List Key × V)} {n : Int} {ps : List Pi} {d : Int → Int → Int} {s : Pl} {F : List Pl} {t m : Nat} {qs : List Pl} (S : SP n ps d s F t qs) (T : Tm n ps d) (b : Bes av G kvs (Adj ps) n ps m) (rk : ∀ r, 0 ≤ r → r < n → valV kvs (keyOf [r]) ≠ none) : F.length ≤ m := by
  have z := nodup_le (F.map keyOf) (kvs.map (·.1)) ((List.Pairwise.map keyOf (fun a b (h : a ≠ b) z => h (keyOf_inj z)) S.nd)) (fun x hx => by
    obtain ⟨p, hp, rfl⟩ := List.mem_map.mp hx
    have k := bes_key T b rk (S.ok p hp)
    cases e : valV kvs (keyOf p) with
    | none => exact absurd e k
    | some v => exact valV_in e)
  rw [List.length_map, List.length_map] at z
  exact Nat.le_trans z b.1
end Rw

namespace Rw
open PySem PySem.Spec PyProof.Rows L2
theorem eqv_ints : ∀ p q : List Int, PyData.eqvAll (p.map .int) (q.map .int) = decide (p = q)
  | [], [] => by simp [PyData.eqvAll]
  | [], _ :: _ => by simp [PyData.eqvAll]
  | _ :: _, [] => by simp [PyData.eqvAll]
  | a :: p, b :: q => by
    rw [List.map_cons, List.map_cons]
    simp only [PyData.eqvAll, PyData.eqv, eqv_ints p q]
    rw [Bool.eq_iff_iff]
    simp
theorem eqv_tupI (p q : List Int) : PyData.eqv (tupI p) (tupI q) = decide (p = q) := by
  show PyData.eqv (.tuple (p.map .int)) (.tuple (q.map .int)) = _
  simp only [PyData.eqv, eqv_ints]
theorem tupI_shaped (p : List Int) : SeqAt.shaped (tupI p) = true := by
  refine shaped_of ?_ ?_
  · show PyData.canLay0 (.tuple (p.map .int)) = true
    simp only [PyData.canLay0, tupI_lay p]
  · have : PyData.depth (.tuple (p.map .int)) ≤ 64 := by simp [PyData.depth, tupI_depths p]
    exact this
theorem tupI_dp {K : PySem.W.Frag} {av : List Addr} {H : Hp} {v : V} {p : List Int} (h : Dt av H v (tupI p)) : L2.Dp K H v (tupI p) := by
  refine Dt.dp _ _ h ?_
  show PyData.canLay0 (.tuple (p.map .int)) = true
  simp only [PyData.canLay0, tupI_lay p]
end Rw

namespace Rw
section
variable {n : Int} {ps : List Pi} {d : Int → Int → Int} (T : Tm n ps d)
include T
theorem adj_by1 {p q : Pl} (hp : okP n ps p) (a : Adj ps p q) : Dp ps d p q = 1 := by
  have st := Dp_step T hp a
  have nn := Dp_nn T hp (ok_adj T a)
  rw [Dp_self T hp] at st
  rcases st with z | z <;> omega
/-! of three places one lies between each two -/
theorem mid_ex {p r : Pl} (hp : okP n ps p) (hr : okP n ps r) : ∀ (k : Nat) (q : Pl), okP n ps q → (Dp ps d p q).toNat = k → ∃ m, okP n ps m ∧ Btw ps d p q m ∧ Btw ps d p r m ∧ Btw ps d q r m
  | 0, q, hq, e => by
    have nn := Dp_nn T hp hq
    have z := Dp_eq0 T hp hq (by omega)
    subst z
    exact ⟨p, hp, (btw_refl T hp hp).1, (btw_refl T hp hr).1, (btw_refl T hp hr).1⟩
  | k + 1, q, hq, e => by
    have ne : q ≠ p := fun z => by rw [z, Dp_self T hp] at e; cases e
    obtain ⟨u, au, eu⟩ := Dp_par T hp hq ne
    have hu := ok_adj T au
    obtain ⟨m, hm, b1, b2, b3⟩ := mid_ex hp hr k u hu (by omega)
    have b1' : Dp ps d p m + Dp ps d m u = Dp ps d p u := b1
    have b2' : Dp ps d p m + Dp ps d m r = Dp ps d p r := b2
    have b3' : Dp ps d u m + Dp ps d m r = Dp ps d u r := b3
    have s1 := Dp_sym T hu hm
    have s2 := Dp_sym T hq hm
    have s3 := Dp_sym T hq hr
    have s4 := Dp_sym T hu hr
    have s5 := Dp_sym T hm hr
    have o1 := adj_by1 T hq au
    have o2 := Dp_sym T hq hu
    rcases Dp_step T hr au with z | z
    · -- q is nearer than u
      by_cases c : m = u
      · subst c
        refine ⟨q, hq, (btw_refl T hp hq).2, ?_, (btw_refl T hq hr).1⟩
        show Dp ps d p q + Dp ps d q r = Dp ps d p r
        omega
      · exfalso
        obtain ⟨x, ax, ex⟩ := Dp_par T hm hu (Ne.symm c)
        have hx := ok_adj T ax
        have s6 := Dp_sym T hx hr
        have s7 := Dp_sym T hm hx
        have t1 := Dp_le T hx hm hr
        have t2 := Dp_le T hp hm hx
        have stx := Dp_step T hr ax
        have s8 := Dp_sym T hp hu
        have exr : Dp ps d r u = Dp ps d r x + 1 := by rcases stx with w | w <;> omega
        have equ : x = q := Dp_uni T hr hu ax au.symm exr z
        subst equ
        omega
    · -- u is nearer
      have t1 := Dp_le T hq hu hm
      have t2 := Dp_le T hq hm hr
      have t3 := Dp_le T hp hm hq
      refine ⟨m, hm, ?_, b2, ?_⟩
      · show Dp ps d p m + Dp ps d m q = Dp ps d p q
        omega
      · show Dp ps d q m + Dp ps d m r = Dp ps d q r
        omega
theorem mid_of {p q r : Pl} (hp : okP n ps p) (hq : okP n ps q) (hr : okP n ps r) : ∃ k : Int, Dp ps d p q + Dp ps d p r - Dp ps d q r = 2 * k ∧ 0 ≤ k ∧ k ≤ Dp ps d p q ∧ k ≤ Dp ps d p r ∧
    ∀ z, okP n ps z → Dp ps d p z = k → Dp ps d z q = Dp ps d p q - k → Dp ps d z r = Dp ps d p r - k ∧ Btw ps d p r z ∧ Btw ps d q r z := by
  obtain ⟨m, hm, b1, b2, b3⟩ := mid_ex T hp hr _ q hq rfl
  have b1' : Dp ps d p m + Dp ps d m q = Dp ps d p q := b1
  have b2' : Dp ps d p m + Dp ps d m r = Dp ps d p r := b2
  have b3' : Dp ps d q m + Dp ps d m r = Dp ps d q r := b3
  have s1 := Dp_sym T hq hm
  have n1 := Dp_nn T hp hm
  have n2 := Dp_nn T hm hq
  have n3 := Dp_nn T hm hr
  refine ⟨Dp ps d p m, by omega, n1, by omega, by omega, fun z hz e1 e2 => ?_⟩
  have ez : z = m := btw_one T hp hz hm _ q hq rfl (show Dp ps d p z + Dp ps d z q = Dp ps d p q by omega) b1 e1
  subst ez
  exact ⟨by omega, b2, b3⟩
end
end Rw

namespace Rw
section
variable {n : Int} {ps : List Pi} {d : Int → Int → Int} (T : Tm n ps d)
include T
theorem rooms_row {s M : Int} (s0 : 0 ≤ s) (s1 : s < n) (hM : ∀ p ∈ ps, p.l ≤ M) (hM0 : 0 ≤ M) : ∀ (k : Nat) (t : Int), 0 ≤ t → t < n → (d s t).toNat < k → ∃ F : List Int, F.Nodup ∧ (∀ x ∈ F, 0 ≤ x ∧ x < n ∧ d s x ≤ d s t) ∧ d s t + M ≤ M * F.length
  | 0, t, _, _, e => absurd e (Nat.not_lt_zero _)
  | k + 1, t, t0, t1, e => by
    by_cases c : s = t
    · subst c
      refine ⟨[s], by simp, fun x hx => by rw [List.mem_singleton.mp hx]; exact ⟨s0, s1, Int.le_refl _⟩, ?_⟩
      rw [T.zero]
      show 0 + M ≤ M * ((1 : Nat) : Int)
      omega
    · obtain ⟨i, p, gp, h⟩ := T.par s t s0 s1 t0 t1 c
      have mp := List.mem_of_getElem? gp
      obtain ⟨x0, x1, y0, y1, l1⟩ := T.ok p mp
      have lM := hM p mp
      obtain ⟨u, u0, u1, eu⟩ : ∃ u, 0 ≤ u ∧ u < n ∧ d s u + p.l = d s t := by
        rcases h with ⟨_, h⟩ | ⟨_, h⟩
        · exact ⟨p.y, y0, y1, h⟩
        · exact ⟨p.x, x0, x1, h⟩
      have nnu : 0 ≤ d s u := by
        by_cases z : s = u
        · subst z; rw [T.zero]; exact Int.le_refl 0
        · have := T.pos s u s0 s1 u0 u1 z; omega
      obtain ⟨F, f1, f2, f3⟩ := rooms_row s0 s1 hM hM0 k u u0 u1 (by omega)
      refine ⟨t :: F, List.nodup_cons.mpr ⟨fun m => ?_, f1⟩, fun x hx => ?_, ?_⟩
      · have := (f2 t m).2.2
        omega
      · rcases List.mem_cons.mp hx with rfl | m
        · exact ⟨t0, t1, Int.le_refl _⟩
        · obtain ⟨a, b, c'⟩ := f2 x m
          exact ⟨a, b, by omega⟩
      · rw [List.length_cons]
        have : M * ((F.length + 1 : Nat) : Int) = M * F.length + M := by
          rw [Int.natCast_add]; show M * ((F.length : Int) + 1) = _; rw [Int.mul_add, Int.mul_one]
        omega
theorem rooms_far {s t : Int} (hn : n ≤ 16) (hM : ∀ p ∈ ps, p.l ≤ 1000000000000) (s0 : 0 ≤ s) (s1 : s < n) (t0 : 0 ≤ t) (t1 : t < n) : d s t ≤ 15000000000000 := by
  obtain ⟨F, f1, f2, f3⟩ := rooms_row T s0 s1 hM (by omega) _ t t0 t1 (Nat.lt_succ_self _)
  have := pigeon 16 F f1 (fun x hx => by have := f2 x hx; omega)
  omega
theorem places_far {p q : Pl} (hn : n ≤ 16) (hM : ∀ p ∈ ps, p.l ≤ 1000000000000) (hp : okP n ps p) (hq : okP n ps q) : Dp ps d p q ≤ 17000000000000 := by
  have room : ∀ z, okP n ps z → ∃ r, 0 ≤ r ∧ r < n ∧ Dp ps d z [r] ≤ 1000000000000 := fun z hz => by
    rcases ok_cases hz with ⟨r, rfl, r0, r1⟩ | ⟨i, a, rfl, h0, h1, a0, a1⟩
    · exact ⟨r, r0, r1, by rw [Dp_self T hz]; omega⟩
    · have l1 := hM _ (pr_mem h0 h1).1
      have z2 := Dp_same T h0 h1 a0 a1 (d := d) 0
      rw [nm_0] at z2
      obtain ⟨x0, x1, _⟩ := T.ok _ (pr_mem h0 h1).1
      refine ⟨(pr ps i).x, x0, x1, ?_⟩
      rw [z2]
      unfold ab
      split <;> omega
  obtain ⟨r, r0, r1, e1⟩ := room p hp
  obtain ⟨t, t0, t1, e2⟩ := room q hq
  have okr : okP n ps [r] := ⟨r0, r1⟩
  have okt : okP n ps [t] := ⟨t0, t1⟩
  have t1' := Dp_le T hp okr hq
  have t2' := Dp_le T okr okt hq
  have s1 := Dp_sym T hq okt
  have rf := rooms_far T hn hM r0 r1 t0 t1
  have rr : Dp ps d [r] [t] = d r t := rfl
  omega
end
end Rw

namespace Rw
open PySem PySem.Spec PyProof.Rows L2
/-! ### how far rooms lie apart, in a table by pairs of rooms -/
theorem filter_lt {α : Type} {f g : α → Bool} : ∀ {l : List α}, (∀ a ∈ l, f a = true → g a = true) → ∀ {a : α}, a ∈ l → g a = true → f a = false → (l.filter f).length < (l.filter g).length
  | [], _, _, m, _, _ => (nomatch m)
  | x :: l, h, a, m, ga, fa => by
    have le : (l.filter f).length ≤ (l.filter g).length := by
      have hl : ∀ a ∈ l, f a = true → g a = true := fun a m => h a (List.mem_cons_of_mem _ m)
      clear m ga fa h
      induction l with
      | nil => exact Nat.le_refl _
      | cons y l ih =>
        have h1 := hl y List.mem_cons_self
        have h2 := ih fun a m => hl a (List.mem_cons_of_mem _ m)
        rw [List.filter_cons, List.filter_cons]
        cases e1 : f y <;> cases e2 : g y
        · simpa using h2
        · simp; omega
        · rw [h1 e1] at e2; cases e2
        · simp; omega
    rw [List.filter_cons, List.filter_cons]
    rcases List.mem_cons.mp m with rfl | m
    · rw [ga, fa]; simp; omega
    · have ih := filter_lt (fun a m => h a (List.mem_cons_of_mem _ m)) m ga fa
      have h1 := h x List.mem_cons_self
      cases e1 : f x <;> cases e2 : g x
      · simpa using ih
      · simp; omega
      · rw [h1 e1] at e2; cases e2
      · simp; omega
def rk (n : Int) (d : Int → Int → Int) (r s : Int) : Nat := ((List.range n.toNat).filter fun u : Nat => decide (d r (u : Int) < d r s)).length
theorem rk_le (n : Int) (d : Int → Int → Int) (r s : Int) : rk n d r s ≤ n.toNat := by
  unfold rk
  have := List.length_filter_le (fun u : Nat => decide (d r (u : Int) < d r s)) (List.range n.toNat)
  rw [List.length_range] at this
  exact this
theorem rk_lt {n : Int} {d : Int → Int → Int} {r u s : Int} (u0 : 0 ≤ u) (u1 : u < n) (h : d r u < d r s) : rk n d r u < rk n d r s := by
  unfold rk
  refine filter_lt (fun a _ z => decide_eq_true (by have := of_decide_eq_true z; omega)) (a := u.toNat) (List.mem_range.mpr (by omega)) (decide_eq_true ?_) (decide_eq_false ?_)
  · rw [show ((u.toNat : Nat) : Int) = u by omega]; exact h
  · rw [show ((u.toNat : Nat) : Int) = u by omega]; omega
def fdd (kvs : List (List Key × V)) (r s : Int) : Prop := valV kvs (keyOf [r, s]) ≠ none
structure Tab (n : Int) (ps : List Pi) (d : Int → Int → Int) (kvs : List (List Key × V)) : Prop where
  val : ∀ r s, 0 ≤ r → r < n → 0 ≤ s → s < n → fdd kvs r s → valV kvs (keyOf [r, s]) = some (.int (d r s))
  par : ∀ r s, 0 ≤ r → r < n → 0 ≤ s → s < n → fdd kvs r s → s ≠ r → ∃ u w, 0 ≤ u ∧ u < n ∧ fdd kvs r u ∧ RE ps s u w ∧ d r s = d r u + w
theorem Tab.new {n : Int} {ps : List Pi} {d : Int → Int → Int} {kvs : List (List Key × V)} (h : Tab n ps d kvs) (T : Tm n ps d) {r u s w : Int} (r0 : 0 ≤ r) (r1 : r < n) (u0 : 0 ≤ u) (u1 : u < n) (hu : fdd kvs r u) (hs : ¬ fdd kvs r s) (e : RE ps u s w) : d r s = d r u + w := by
  have S := T.rooms r0 r1
  rcases S.step u s w ⟨u0, u1⟩ e with z | z
  · exact z
  · have h1 := S.nn s (S.cl u s w ⟨u0, u1⟩ e)
    have h2 := S.wt u s w ⟨u0, u1⟩ e
    have ne : u ≠ r := fun q => by rw [q, T.zero] at z; omega
    obtain ⟨u', w', a0, a1, f', e', h'⟩ := h.par r u r0 r1 u0 u1 hu ne
    have q := S.uni u s w u' w' ⟨u0, u1⟩ e e' z h'
    rw [q] at hs
    exact absurd f' hs
theorem key2 {a b c e : Int} : keyOf [a, b] = keyOf [c, e] ↔ a = c ∧ b = e := ⟨fun z => by
  have := keyOf_inj z
  simp only [List.cons.injEq, and_true] at this
  exact this, fun z => by rw [z.1, z.2]⟩
theorem fdd_put {kvs : List (List Key × V)} {r s r' s' : Int} {v : V} : fdd (putK kvs (keyOf [r, s]) v) r' s' ↔ (r' = r ∧ s' = s) ∨ fdd kvs r' s' := by
  unfold fdd
  rw [valV_put]
  by_cases e : r' = r ∧ s' = s
  · rw [if_pos (key2.mpr e)]
    exact ⟨fun _ => .inl e, fun _ z => by cases z⟩
  · rw [if_neg (fun z => e (key2.mp z))]
    exact ⟨.inr, fun z => z.resolve_left e⟩
theorem Tab.put {n : Int} {ps : List Pi} {d : Int → Int → Int} {kvs : List (List Key × V)} (h : Tab n ps d kvs) {r s v : Int} (hv : v = d r s) (hp : s ≠ r → ∃ u w, 0 ≤ u ∧ u < n ∧ fdd kvs r u ∧ RE ps s u w ∧ d r s = d r u + w) : Tab n ps d (putK kvs (keyOf [r, s]) (.int v)) := by
  refine ⟨fun r' s' a0 a1 b0 b1 f => ?_, fun r' s' a0 a1 b0 b1 f ne => ?_⟩
  · rw [valV_put]
    by_cases e : r' = r ∧ s' = s
    · rw [if_pos (key2.mpr e), hv, e.1, e.2]
    · rw [if_neg (fun z => e (key2.mp z))]
      exact h.val r' s' a0 a1 b0 b1 ((fdd_put.mp f).resolve_left e)
  · rcases fdd_put.mp f with ⟨rfl, rfl⟩ | f
    · obtain ⟨u, w, x0, x1, x2, x3⟩ := hp ne
      exact ⟨u, w, x0, x1, fdd_put.mpr (.inr x2), x3⟩
    · obtain ⟨u, w, x0, x1, x2, x3⟩ := h.par r' s' a0 a1 b0 b1 f ne
      exact ⟨u, w, x0, x1, fdd_put.mpr (.inr x2), x3⟩
def Prc (n : Int) (d : Int → Int → Int) (kvs : List (List Key × V)) (t : Nat) (r : Int) (p : Pi) : Prop := (rk n d r p.x ≤ t → fdd kvs r p.y) ∧ (rk n d r p.y ≤ t → fdd kvs r p.x)
def Upto (n : Int) (d : Int → Int → Int) (kvs : List (List Key × V)) (t : Nat) : Prop := ∀ r s, 0 ≤ r → r < n → 0 ≤ s → s < n → rk n d r s ≤ t → fdd kvs r s
theorem Prc.mono {n : Int} {d : Int → Int → Int} {kvs k2 : List (List Key × V)} {t : Nat} {r : Int} {p : Pi} (h : Prc n d kvs t r p) (m : ∀ a b, fdd kvs a b → fdd k2 a b) : Prc n d k2 t r p := ⟨fun z => m _ _ (h.1 z), fun z => m _ _ (h.2 z)⟩
theorem Upto.first {n : Int} {ps : List Pi} {d : Int → Int → Int} {kvs : List (List Key × V)} (T : Tm n ps d) (h : ∀ r, 0 ≤ r → r < n → fdd kvs r r) : Upto n d kvs 0 := fun r s r0 r1 s0 s1 z => by
  by_cases e : s = r
  · rw [e]; exact h r r0 r1
  · obtain ⟨i, p, e', hp⟩ := T.par r s r0 r1 s0 s1 (Ne.symm e)
    have pm := T.ok p (List.mem_of_getElem? e')
    obtain ⟨u, u0, u1, hu⟩ : ∃ u, 0 ≤ u ∧ u < n ∧ d r u < d r s := by
      rcases hp with ⟨h1, h2⟩ | ⟨h1, h2⟩
      · exact ⟨p.y, pm.2.2.1, pm.2.2.2.1, by omega⟩
      · exact ⟨p.x, pm.1, pm.2.1, by omega⟩
    have := rk_lt u0 u1 hu
    omega
theorem Upto.next {n : Int} {ps : List Pi} {d : Int → Int → Int} {kvs : List (List Key × V)} {t : Nat} (T : Tm n ps d) (own : ∀ r, 0 ≤ r → r < n → fdd kvs r r) (h : ∀ r, 0 ≤ r → r < n → ∀ p ∈ ps, Prc n d kvs t r p) : Upto n d kvs (t + 1) := fun r s r0 r1 s0 s1 z => by
  by_cases e : s = r
  · rw [e]; exact own r r0 r1
  · obtain ⟨i, p, e', hp⟩ := T.par r s r0 r1 s0 s1 (Ne.symm e)
    have mp := List.mem_of_getElem? e'
    have pm := T.ok p mp
    have pc := h r r0 r1 p mp
    rcases hp with ⟨h1, h2⟩ | ⟨h1, h2⟩
    · have := rk_lt (n := n) (d := d) (r := r) (u := p.y) (s := s) pm.2.2.1 pm.2.2.2.1 (by omega)
      rw [← h1]; exact pc.2 (by omega)
    · have := rk_lt (n := n) (d := d) (r := r) (u := p.x) (s := s) pm.1 pm.2.1 (by omega)
      rw [← h1]; exact pc.1 (by omega)
/-! the table lies there whole -/
def Apt (H : Hp) (Fd : Addr) (n : Int) (d : Int → Int → Int) : Prop := ∃ kvs, H Fd = some (.dT kvs) ∧ ∀ r s, 0 ≤ r → r < n → 0 ≤ s → s < n → valV kvs (keyOf [r, s]) = some (.int (d r s))
end Rw

namespace Rw
open PySem PySem.Spec PyProof.Rows L2
def trH (d : Int → Int → Int) (e f : List Int) : Int := e.getD 1 0 + d (e.getD 0 0) (f.getD 0 0) + f.getD 1 0
theorem trips_heads (ps : List Pi) (d : Int → Int → Int) (p q : Pl) : (trips ps d p q).map (fun x => x.headD 0) = (exitsL ps p).flatMap fun e => (exitsL ps q).map (trH d e) := by
  unfold trips
  rw [List.map_flatMap]
  refine congrArg (fun f => (exitsL ps p).flatMap f) (funext fun e => ?_)
  rw [List.map_map]; rfl
theorem exits_len {n : Int} {ps : List Pi} {p : Pl} (h : okP n ps p) : 1 ≤ (exitsL ps p).length ∧ (exitsL ps p).length ≤ 2 := by
  rcases ok_cases h with ⟨r, rfl, r0, r1⟩ | ⟨i, b, rfl, h0, h1, b0, b1⟩
  · exact ⟨Nat.le_refl 1, show 1 ≤ 2 by decide⟩
  · exact ⟨show 1 ≤ 2 by decide, Nat.le_refl 2⟩
end Rw

namespace Rw
open PySem PySem.Spec PyProof.Rows L2
/-! ### the place so many steps on: where it is looked for -/
def cnd (ps : List Pi) (d : Int → Int → Int) (p : Pl) (i st : Int) : List Int :=
  if p.headD 0 = i ∧ p.length = 2 then [p.getD 1 0 + st, p.getD 1 0 - st] else [st - Dp ps d p [(pr ps i).x], (pr ps i).l - st + Dp ps d p [(pr ps i).y]]
section Pure
variable {n : Int} {ps : List Pi} {d : Int → Int → Int} (T : Tm n ps d)
include T
theorem step_there {p q : Pl} (hp : okP n ps p) (hq : okP n ps q) : ∀ (k : Nat) {st : Int}, 0 ≤ st → st ≤ Dp ps d p q → (Dp ps d p q - st).toNat = k → ∃ z, okP n ps z ∧ Dp ps d p z = st ∧ Dp ps d z q = Dp ps d p q - st
  | 0, st, s0, s1, hk => ⟨q, hq, by omega, by rw [Dp_self T hq]; omega⟩
  | k + 1, st, s0, s1, hk => by
    obtain ⟨z, oz, e1, e2⟩ := step_there hp hq k (st := st + 1) (by omega) (by omega) (by omega)
    have S := T.places hp
    have ne : z ≠ p := fun w => by rw [w, Dp_self T hp] at e1; omega
    obtain ⟨u, w, ⟨a, rfl⟩, e3⟩ := S.par z oz ne
    have ou := S.cl z u 1 oz ⟨a, rfl⟩
    have t1 := Dp_le T ou oz hq
    have t2 := Dp_le T hp ou hq
    have e4 : Dp ps d u z = 1 := by
      have S2 := T.places ou
      rcases S2.step u z 1 ou ⟨a.symm, rfl⟩ with h | h
      · rw [Dp_self T ou] at h; omega
      · have := S2.nn z oz
        rw [Dp_self T ou] at h; omega
    exact ⟨u, ou, by omega, by omega⟩
theorem cnd_has {p z : Pl} (hp : okP n ps p) (hz : okP n ps z) (hn : 2 ≤ n) (hl : (ps.length : Int) = n - 1) {st : Int} (e : Dp ps d p z = st) : ∃ i : Nat, i < ps.length ∧ ∃ a ∈ cnd ps d p (i : Int) st, 0 ≤ a ∧ a ≤ (pr ps (i : Int)).l ∧ nm ps (i : Int) a = z := by
  have self : ∀ {j b : Int}, 0 ≤ j → j < ps.length → 1 ≤ b → b ≤ (pr ps j).l - 1 → ∀ {a : Int}, 0 ≤ a → a ≤ (pr ps j).l → Dp ps d [j, b] (nm ps j a) = st → a ∈ cnd ps d [j, b] j st := fun {j b} j0 j1 b0 b1 {a} a0 a1 h => by
    have e1 : nm ps j b = [j, b] := (if_neg (by omega)).trans (if_neg (by omega))
    have e2 := nm_dist T j0 j1 (a := b) (b := a) (by omega) (by omega) a0 a1
    rw [e1, h] at e2
    unfold cnd
    rw [if_pos ⟨rfl, rfl⟩]
    unfold ab at e2
    show a ∈ [b + st, b - st]
    split at e2
    · exact List.mem_cons.mpr (.inl (by omega))
    · exact List.mem_cons.mpr (.inr (List.mem_singleton.mpr (by omega)))
  have other : ∀ {i : Int}, 0 ≤ i → i < ps.length → ¬ (p.headD 0 = i ∧ p.length = 2) → ∀ {a : Int}, 0 ≤ a → a ≤ (pr ps i).l → Dp ps d p (nm ps i a) = st → a ∈ cnd ps d p i st := fun {i} i0 i1 hne {a} a0 a1 h => by
    unfold cnd
    rw [if_neg hne]
    obtain ⟨f0, f1, f2, f⟩ := foot_at T hp i0 i1
    have l1 := (T.at i0 i1).2.2.2.2
    have nx : nm ps i 0 = [(pr ps i).x] := if_pos rfl
    have ny : nm ps i (pr ps i).l = [(pr ps i).y] := (if_neg (by omega)).trans (if_pos rfl)
    have ea := f a a0 a1
    have cs : foot ps d p i = 0 ∨ foot ps d p i = (pr ps i).l := by
      by_cases c1 : 0 < foot ps d p i
      · by_cases c2 : foot ps d p i < (pr ps i).l
        · exact absurd (by rw [f2 c1 c2]; exact ⟨rfl, rfl⟩) hne
        · exact .inr (by omega)
      · exact .inl (by omega)
    rcases cs with z | z
    · rw [z, nx, h] at ea
      have : ab a 0 = a := by unfold ab; split <;> omega
      exact List.mem_cons.mpr (.inl (by omega))
    · rw [z, ny, h] at ea
      have : ab a (pr ps i).l = (pr ps i).l - a := by unfold ab; split <;> omega
      exact List.mem_cons.mpr (.inr (List.mem_singleton.mpr (by omega)))
  have both : ∀ {i : Int}, 0 ≤ i → i < ps.length → ∀ {a : Int}, 0 ≤ a → a ≤ (pr ps i).l → Dp ps d p (nm ps i a) = st → a ∈ cnd ps d p i st := fun {i} i0 i1 {a} a0 a1 h => by
    by_cases c : p.headD 0 = i ∧ p.length = 2
    · rcases ok_cases hp with ⟨r, rfl, r0, r1⟩ | ⟨j, b, rfl, j0, j1, b0, b1⟩
      · exact absurd c.2 (show ¬ (1 = 2) by decide)
      · have : j = i := c.1
        subst this
        exact self j0 j1 b0 b1 a0 a1 h
    · exact other i0 i1 c a0 a1 h
  rcases ok_cases hz with ⟨r, rfl, r0, r1⟩ | ⟨i, a, rfl, i0, i1, a0, a1⟩
  · obtain ⟨s, s0, s1, ne⟩ : ∃ s : Int, 0 ≤ s ∧ s < n ∧ s ≠ r := by
      by_cases c : r = 0
      · exact ⟨1, by omega, by omega, by omega⟩
      · exact ⟨0, by omega, by omega, fun z => c z.symm⟩
    obtain ⟨i, p', gi, hp'⟩ := T.par s r s0 s1 r0 r1 ne
    have hi : i < ps.length := (List.getElem?_eq_some_iff.mp gi).1
    have epr := pr_of gi
    have l1 := (T.at (i := (i : Int)) (by omega) (by omega)).2.2.2.2
    have nx : nm ps (i : Int) 0 = [(pr ps (i : Int)).x] := if_pos rfl
    have ny : nm ps (i : Int) (pr ps (i : Int)).l = [(pr ps (i : Int)).y] := (if_neg (by omega)).trans (if_pos rfl)
    rcases hp' with ⟨h1, _⟩ | ⟨h1, _⟩
    · have ez : nm ps (i : Int) 0 = [r] := by rw [nx, epr, h1]
      exact ⟨i, hi, 0, both (by omega) (by omega) (by omega) (by omega) (by rw [ez]; exact e), by omega, by omega, ez⟩
    · have ez : nm ps (i : Int) (pr ps (i : Int)).l = [r] := by rw [ny, epr, h1]
      exact ⟨i, hi, _, both (by omega) (by omega) (by omega) (by omega) (by rw [ez]; exact e), by omega, by omega, ez⟩
  · have e1 : nm ps i a = [i, a] := (if_neg (by omega)).trans (if_neg (by omega))
    refine ⟨i.toNat, by omega, a, ?_, by omega, ?_, ?_⟩ <;> rw [show ((i.toNat : Nat) : Int) = i by omega]
    · exact both i0 i1 (by omega) (by omega) (by rw [e1]; exact e)
    · omega
    · exact e1
end Pure
@[elab_as_elim] theorem gen2 {α β : Type} {P : α → β → Prop} (a : α) (b : β) (h : ∀ x y, x = a → y = b → P x y) : P a b := h a b rfl rfl
end Rw

namespace Rw
open PySem PySem.Spec PyProof.Rows L2
theorem shw_pl {n : Int} {ps : List Pi} {p : Pl} (hk : HouseOk n ps) (h : okP n ps p) : Shw (tupI p) := by
  have n16 := hk.n2
  have ln := hk.len
  refine (Sw.tup (k := 0) (n := 16) (m := 2) (fun d m => ?_) ?_).shw (by decide) (by decide)
  · obtain ⟨i, mi, rfl⟩ := List.mem_map.mp m
    rcases ok_cases h with ⟨r, rfl, r0, r1⟩ | ⟨j, a, rfl, j0, j1, a0, a1⟩
    · rw [List.mem_singleton.mp mi]; exact Sw.int r0 (by omega)
    · have l2 := (hk.ok _ (pr_mem j0 j1).1).fit.l2
      rcases List.mem_cons.mp mi with rfl | mi
      · exact Sw.int j0 (by omega)
      · rw [List.mem_singleton.mp mi]; exact Sw.int (by omega) (by omega)
  · rw [List.length_map]
    rcases ok_cases h with ⟨r, rfl, r0, r1⟩ | ⟨j, a, rfl, j0, j1, a0, a1⟩
    · exact show 1 ≤ 2 by decide
    · exact Nat.le_refl 2
theorem same_pl {n : Int} {ps : List Pi} {d : Int → Int → Int} (T : Tm n ps d) {x y z z' : Pl} {k : Int} (hx : okP n ps x) (hy : okP n ps y) (hz : okP n ps z) (hz' : okP n ps z') (h1 : Dp ps d x z = k) (h2 : Dp ps d z y = Dp ps d x y - k) (h3 : Dp ps d x z' = k) (h4 : Dp ps d z' y = Dp ps d x y - k) : z = z' :=
  btw_one T hx hz hz' _ y hy rfl (by unfold Btw; omega) (by unfold Btw; omega) (by omega)
theorem Apt.keep {H G : Hp} {Fd D : Addr} {n : Int} {d : Int → Int → Int} (h : Apt H Fd n d) (ne : Fd ≠ D) (k : Keep [D] H G) : Apt G Fd n d := by
  obtain ⟨kvs, e, v⟩ := h
  exact ⟨kvs, k _ _ e (fun m => ne (List.mem_singleton.mp m)), v⟩
end Rw

namespace Rw
open PySem PySem.Spec PyProof.Rows L2
/-! ### all places of a small house, in their order -/
def plsL (n : Int) (ps : List Pi) (j : Nat) : List Pl := (List.range n.toNat).map (fun r : Nat => [(r : Int)]) ++ (List.range j).flatMap fun i : Nat => (List.range ((pr ps (i : Int)).l - 1).toNat).map fun a : Nat => [(i : Int), 1 + (a : Int)]
theorem pls_mem {n : Int} {ps : List Pi} {z : Pl} : z ∈ plsL n ps ps.length ↔ okP n ps z := by
  unfold plsL
  rw [List.mem_append, List.mem_map, List.mem_flatMap]
  constructor
  · rintro (⟨r, m, rfl⟩ | ⟨i, mi, m⟩)
    · have := List.mem_range.mp m
      exact ⟨by omega, by omega⟩
    · obtain ⟨a, ma, rfl⟩ := List.mem_map.mp m
      have h1 := List.mem_range.mp mi
      have h2 := List.mem_range.mp ma
      exact ⟨by omega, by omega, by omega, by omega⟩
  · intro h
    rcases ok_cases h with ⟨r, rfl, r0, r1⟩ | ⟨i, a, rfl, i0, i1, a0, a1⟩
    · exact .inl ⟨r.toNat, List.mem_range.mpr (by omega), by rw [show ((r.toNat : Nat) : Int) = r by omega]⟩
    · refine .inr ⟨i.toNat, List.mem_range.mpr (by omega), List.mem_map.mpr ⟨(a - 1).toNat, List.mem_range.mpr ?_, ?_⟩⟩
      · rw [show ((i.toNat : Nat) : Int) = i by omega]; omega
      · rw [show ((i.toNat : Nat) : Int) = i by omega, show 1 + (((a - 1).toNat : Nat) : Int) = a by omega]
section
variable {P : Program} {w : World} {K : PySem.W.Frag} {mg : Str → Option Value} {base : Heap}
abbrev sSpt : Stmt := topS 35
abbrev nSpt : List Str := ["_law_house_here", "_law_pipe", "_law_at", "_law_one", "_law_other", "_law_length", "_law_narrows", "_law_flaps"]
theorem scSpt : FnScope nSpt ["_law_house_here", "_law_pipe", "_law_at"] (defScope sSpt) := ⟨rfl, rfl, rfl, by decide +kernel, rfl, by decide +kernel, by decide +kernel⟩
def spSpt : Sp := fun vs H Q _ => ∃ (h : V) (n i a : Int) (ps : List Pi) (av : List Addr), vs = [h, .int i, .int a] ∧ Dt [] H h (houseD n (ps.map Pi.dat)) ∧ 0 ≤ i ∧ i < ps.length ∧ Tr av H ∧
  ∀ (H' : Hp) (x : Addr), Keep [] H H' → Tr av H' → H x = none → Dt av H' (.ref x) (tupI (nm ps i a)) → Q (.ref x) H'
theorem ok_spt (h : Has K mg "_law_spot" sSpt) (B : Blt mg) : Can P w K mg base "_law_spot" ["_law_house_here", "_law_pipe", "_law_at"] 1 spSpt := by
  obtain ⟨f, fd, F, g⟩ := h
  refine ⟨f, fd, F.ok (k := 0) scSpt (fun vs H Q E h => ?_) (fun cdv A outer s H vs Q E hr h => ?_), g, F.kp, F.binds fun _ _ _ _ _ _ us hl => match us, hl with | [_, _, _], _ => rfl⟩
  · obtain ⟨h, n, i, a, ps, av, rfl, _⟩ := h
    rfl
  · obtain ⟨h, n, i, a, ps, av, rfl, hh, i0, i1, tr, k⟩ := h
    refine ⟨_, pss_cons (ps_asg (pe_ix ix_tup (pe_ix ix_tup (pv 0) pe_int (fun _ _ => rfl)) (pv 1) (fun _ _ => rfl)) (pg_tup (by rfl) (pgs_cons (pg_name (i := 3) scSpt.nd rfl (by first | exact Or.inl rfl | exact Or.inr rfl)) (pgs_cons (pg_name (i := 4) scSpt.nd rfl (by first | exact Or.inl rfl | exact Or.inr rfl)) (pgs_cons (pg_name (i := 5) scSpt.nd rfl (by first | exact Or.inl rfl | exact Or.inr rfl)) (pgs_cons (pg_name (i := 6) scSpt.nd rfl (by first | exact Or.inl rfl | exact Or.inr rfl)) (pgs_cons (pg_name (i := 7) scSpt.nd rfl (by first | exact Or.inl rfl | exact Or.inr rfl)) pgs_nil)))))))
      (pss_cons (ps_if (pt_cmpR op_eq (pv 2) pe_int (nomark _)) (pss_one (ps_ret (pe_tup (pa_cons (pv 3) pa_nil)))) pss_nil)
      (pss_one (ps_ret (pe_ix ix_list (pe_lst (pa_cons (pe_tup (pa_cons (pv 1) (pa_cons (pv 2) pa_nil))) (pa_cons (pe_tup (pa_cons (pv 4) pa_nil)) pa_nil))) (pe_callTy call_int1 (by rfl) B.int_ boot_int (pa_cons (pe_cmpR op_eq (pv 2) (pv 5) (nomark _)) pa_nil)) (fun _ _ => rfl))))), ?_⟩
    obtain ⟨ah, ap, xp, rfl, na, ea, nb, eb, db⟩ := house_parts hh
    obtain ⟨p, pa, T1, T2, mp, gp, ga, epa⟩ := pi_at db i0 i1
    have epr : p = pr ps i := by
      have z := (pr_mem i0 i1).2
      rw [z] at gp; exact (Option.some.inj gp).symm
    subst epr
    refine ⟨.ref ah, rfl, ah, _, 1, .ref ap, rfl, rfl, SqT.of ea, atI_nat (j := 1) rfl, .int i, rfl, ap, _, i, .ref pa, rfl, rfl, SqT.of eb, ga, pa, _, rfl, SqT.of epa, rfl, _, _, rfl, _, _, rfl, _, _, rfl, _, _, rfl, _, [], rfl, rfl, ?_⟩
    refine ⟨.int a, rfl, rfl, _, rfl, ite2 (fun e => ?_) (fun e => ?_)⟩
    · have e0 : a = 0 := V.int.inj (of_decide_eq_true e)
      refine ⟨.int (pr ps i).x, rfl, show 1 ≤ sizeLine by decide, fun t nt => ?_⟩
      obtain ⟨q1, t1, f1⟩ := tup_facts tr (ds := [.int (pr ps i).x]) (.cons (.int _) .nil) nt
      exact k _ t q1 t1 nt (by rw [show nm ps i a = [(pr ps i).x] from if_pos e0]; exact f1)
    · have e0 : ¬ a = 0 := fun z => e (decide_eq_true (by rw [z]))
      refine ⟨.int i, rfl, .int a, rfl, show 2 ≤ sizeLine by decide, fun t nt => ?_⟩
      obtain ⟨q1, t1, f1⟩ := tup_facts tr (ds := [.int i, .int a]) (.cons (.int _) (.cons (.int _) .nil)) nt
      generalize upd _ t (.tup _) = H1 at q1 t1 f1 ⊢
      refine ⟨.int (pr ps i).y, rfl, show 1 ≤ sizeLine by decide, fun t2 nt2 => ?_⟩
      obtain ⟨q2, t3, f2⟩ := tup_facts t1 (ds := [.int (pr ps i).y]) (.cons (.int _) .nil) nt2
      generalize upd _ t2 (.tup _) = H2 at q2 t3 f2 ⊢
      refine ⟨show 2 ≤ sizeLine by decide, fun L nL => ?_⟩
      have q3 := Keep.new (av := []) (o := .lst [.ref t, .ref t2]) nL
      have q23 := q2.trans q3
      have t4 : Tr av (upd H2 L (.lst [.ref t, .ref t2])) := t3.upd
      have eL : (upd H2 L (.lst [.ref t, .ref t2])) L = some (.lst [.ref t, .ref t2]) := upd_same
      generalize upd H2 L (.lst [.ref t, .ref t2]) = H3 at q3 q23 t4 eL ⊢
      have q13 := q1.trans q23
      refine ⟨.int a, rfl, .int (pr ps i).l, rfl, rfl, .inr ⟨_, rfl, ?_⟩⟩
      by_cases c : a = (pr ps i).l
      · refine ⟨L, _, _, .ref t2, rfl, by rw [decide_eq_true (by rw [c] : V.int a = V.int (pr ps i).l)]; rfl, SqL.of eL, atI_nat (j := 1) rfl, k _ t2 q13 t4 (q1.fr nt2) ?_⟩
        rw [show nm ps i a = [(pr ps i).y] from (if_neg e0).trans (if_pos c)]; exact f2.keep q3.of
      · refine ⟨L, _, _, .ref t, rfl, by rw [decide_eq_false (fun z => c (V.int.inj z) : ¬ V.int a = V.int (pr ps i).l)]; rfl, SqL.of eL, atI_nat (j := 0) rfl, k _ t q13 t4 nt ?_⟩
        rw [show nm ps i a = [i, a] from (if_neg e0).trans (if_neg c)]; exact f1.keep q23.of
abbrev sPls : Stmt := topS 36
abbrev nPls : List Str := ["_law_house_here", "_law_room", "_law_found", "_law_pipe", "_law_at"]
theorem scPls : FnScope nPls ["_law_house_here"] (defScope sPls) := ⟨rfl, rfl, rfl, by decide +kernel, rfl, by decide +kernel, by decide +kernel⟩
def spPls : Sp := fun vs H Q _ => ∃ (h : V) (n : Int) (ps : List Pi) (av : List Addr), vs = [h] ∧ Dt [] H h (houseD n (ps.map Pi.dat)) ∧ HouseOk n ps ∧ (∀ p ∈ ps, p.l ≤ 10) ∧ Tr av H ∧
  ∀ (H' : Hp) (L : Addr) (us : List V), Keep [] H H' → Tr av H' → H L = none → H' L = some (.lst us) → us.length ≤ 200 → Dts av H' us ((plsL n ps ps.length).map tupI) → Q (.ref L) H'
theorem ok_pls (h : Has K mg "_law_places" sPls) (B : Blt mg) : Can P w K mg base "_law_places" ["_law_house_here"] 1 spPls := by
  obtain ⟨f, fd, F, g⟩ := h
  refine ⟨f, fd, F.ok (k := 0) scPls (fun vs H Q E h => ?_) (fun cdv A outer s H vs Q E hr h => ?_), g, F.kp, F.binds fun _ _ _ _ _ _ us hl => match us, hl with | [_], _ => rfl⟩
  · obtain ⟨h, n, ps, av, rfl, _⟩ := h
    rfl
  · obtain ⟨h, n, ps, av, rfl, hh, hk, short, tr, k⟩ := h
    refine ⟨_, pss_cons (ps_setLc (i := 2) (own := [("_law_room", 1)]) (g := gName 1) (tt := tYes) rfl scPls.nd rfl rfl (sw_true rfl rfl rfl (by decide +kernel)) (pi_range1 (by rfl) B.range_ (pa_cons (pe_ix ix_tup (pv 0) pe_int (fun _ _ => rfl)) pa_nil)) (blkOk_by (N := nPls) (sc := defScope sPls) (by decide +kernel)) (fun _ _ _ _ _ => (pg_name (i := 1) scPls.nd rfl (by first | exact Or.inl rfl | exact Or.inr rfl))) (fun _ _ _ _ _ => pts_nil) (fun _ _ _ _ _ => (pe_tup (pa_cons (pv 1) pa_nil))))
      (pss_cons (ps_for PassesOwn.never rfl (pi_range1 (by rfl) B.range_ (pa_cons (pe_callB call_len_seq (by rfl) B.len_ PySem.boot_len (pa_cons (pe_ix ix_tup (pv 0) pe_int (fun _ _ => rfl)) pa_nil)) pa_nil)) (pg_name (i := 3) scPls.nd rfl (by first | exact Or.inl rfl | exact Or.inr rfl))
      (pss_one (ps_set (i := 2) scPls.nd rfl (by first | exact Or.inl rfl | exact Or.inr rfl) (pe_op op_cat (pv 2) (pe_lc (own := [("_law_at", 4)]) (g := gName 4) (tt := tYes) rfl scPls.nd (pi_range2 (by rfl) B.range_ (pa_cons pe_int (pa_cons (pe_ix ix_tup (pe_ix ix_tup (pe_ix ix_tup (pv 0) pe_int (fun _ _ => rfl)) (pv 3) (fun _ _ => rfl)) pe_int (fun _ _ => rfl)) pa_nil))) (blkOk_by (N := nPls) (sc := defScope sPls) (by decide +kernel)) (fun _ _ _ _ _ => (pg_name (i := 4) scPls.nd rfl (by first | exact Or.inl rfl | exact Or.inr rfl))) (fun _ _ _ _ _ => pts_nil) (fun _ _ _ _ _ => (pe_tup (pa_cons (pv 3) (pa_cons (pv 4) pa_nil)))))))))
      (pss_one (ps_ret (pv 2)))), ?_⟩
    have n1 := hk.n1
    have n16 := hk.n2
    have ln := hk.len
    obtain ⟨ah, ap, xp, rfl, na, ea, nb, eb, db⟩ := house_parts hh
    have xl : xp.length = ps.length := by rw [db.len, List.length_map]
    refine ⟨.ref ah, rfl, ah, [.int n, .ref ap], 0, .int n, rfl, rfl, SqT.of ea, atI_nat (j := 0) rfl, n, rfl, by omega, by omega, fun W nW => ?_⟩
    refine lc_range (lo := 0) (n := n.toNat) (fun u M => Keep [] H M ∧ Tr (W :: av) M ∧ ∃ us : List V, M W = some (.lst us) ∧ us.length = u ∧ Dts (W :: av) M us (((List.range u).map (fun r : Nat => [(r : Int)])).map tupI))
      ⟨Keep.new nW, (tr.upd).cons upd_same, [], upd_same, rfl, .nil⟩ (fun u M hu z => ?_) (fun M z => ?_)
    · obtain ⟨kM, tM, us, eW, lu, du⟩ := z
      refine ⟨rfl, .int (0 + (u : Int)), rfl, show 1 ≤ sizeLine by decide, fun t nt => ?_⟩
      rw [show (0 + (u : Int)) = (u : Int) by omega]
      obtain ⟨q1, t1, f1⟩ := tup_facts tM (ds := [.int (u : Int)]) (.cons (.int _) .nil) nt
      refine ⟨us, q1 W _ eW List.not_mem_nil, Nat.lt_of_lt_of_le (by omega : us.length < 1000) (small1000 (by omega)), (kM.trans q1).upd nW, t1.upd, us ++ [.ref t], upd_same, by rw [List.length_append, lu]; rfl, ?_⟩
      rw [List.range_succ, List.map_append, List.map_append]
      exact lst_step du q1.of f1
    obtain ⟨kM, tM, us0, eW, lu0, du0⟩ := z
    have tav : ∀ {X : Hp}, Keep [] M X → Tr av X := fun {X} k a m => by
      obtain ⟨o, e⟩ := tM a (List.mem_cons_of_mem _ m)
      exact ⟨o, k _ _ e List.not_mem_nil⟩
    refine ⟨.ref ah, rfl, ah, [.int n, .ref ap], 1, .ref ap, rfl, rfl, SqT.of (kM _ _ ea List.not_mem_nil), atI_nat (j := 1) rfl, ap, _, rfl, .inr (SqT.of (kM _ _ eb List.not_mem_nil)), _, rfl, by omega, by omega, for_range (lo := 0) (n := ((xp.length : Int)).toNat)
      (fun j σ G => ∃ (L : Addr) (us : List V) (s1 s3 s4 : Option V), σ = [some (.ref ah), s1, some (.ref L), s3, s4] ∧ Keep [] M G ∧ H L = none ∧ G L = some (.lst us) ∧ us.length ≤ 16 + 10 * j ∧ Dts av G us ((plsL n ps j).map tupI))
      ⟨W, us0, _, _, _, rfl, Keep.refl _ _, nW, eW, by omega, ?_⟩ (fun j σ G hj z => ?_) (fun σ G z => ?_)⟩
    · have e : plsL n ps 0 = (List.range n.toNat).map (fun r : Nat => [(r : Int)]) := by unfold plsL; rw [List.range_zero, List.flatMap_nil, List.append_nil]
      rw [e]; exact du0.less fun a m => List.mem_cons_of_mem _ m
    · obtain ⟨L, us, s1, s3, s4, rfl, kG, fL, eL, lu, du⟩ := z
      have j0 : (0 : Int) ≤ 0 + (j : Int) := by omega
      have j1 : 0 + (j : Int) < ps.length := by omega
      have je : 0 + (j : Int) = (j : Int) := by omega
      generalize 0 + (j : Int) = i at j0 j1 je ⊢
      have kHG := kM.trans kG
      obtain ⟨p', pa, T1, T2, mp, gp, ga, epa⟩ := pi_at (db.keep kHG) j0 j1
      have epr : p' = pr ps i := by
        have z := (pr_mem j0 j1).2
        rw [z] at gp; exact (Option.some.inj gp).symm
      subst epr
      have l1 := (hk.ok _ mp).fit.l1
      have l10 := short _ mp
      refine ⟨.ref L, rfl, .ref ah, rfl, ah, _, 1, .ref ap, rfl, rfl, SqT.of (kHG _ _ ea List.not_mem_nil), atI_nat (j := 1) rfl, .int i, rfl, ap, _, i, .ref pa, rfl, rfl, SqT.of (kHG _ _ eb List.not_mem_nil), ga, pa, _, 2, .int (pr ps i).l, rfl, rfl, SqT.of epa, atI_nat (j := 2) rfl, 1, (pr ps i).l, rfl, ⟨by decide, by decide, by omega, by omega⟩, fun W2 nW2 => ?_⟩
      refine lc_range (lo := 1) (n := ((pr ps i).l - 1).toNat) (fun u X => Keep [] G X ∧ Tr (W2 :: av) X ∧ ∃ vs : List V, X W2 = some (.lst vs) ∧ vs.length = u ∧ Dts (W2 :: av) X vs (((List.range u).map (fun a : Nat => [i, 1 + (a : Int)])).map tupI))
        ⟨Keep.new nW2, ((tav kG).upd).cons upd_same, [], upd_same, rfl, .nil⟩ (fun u X hu z => ?_) (fun X z => ?_)
      · obtain ⟨kX, tX, vs, eW2, lv, dv⟩ := z
        refine ⟨rfl, .int i, rfl, .int (1 + (u : Int)), rfl, show 2 ≤ sizeLine by decide, fun t nt => ?_⟩
        obtain ⟨q1, t1, f1⟩ := tup_facts tX (ds := [.int i, .int (1 + (u : Int))]) (.cons (.int _) (.cons (.int _) .nil)) nt
        refine ⟨vs, q1 W2 _ eW2 List.not_mem_nil, Nat.lt_of_lt_of_le (by omega : vs.length < 1000) (small1000 (by omega)), (kX.trans q1).upd nW2, t1.upd, vs ++ [.ref t], upd_same, by rw [List.length_append, lv]; rfl, ?_⟩
        rw [List.range_succ, List.map_append, List.map_append]
        exact lst_step dv q1.of f1
      · obtain ⟨kX, tX, vs, eW2, lv, dv⟩ := z
        refine ⟨L, W2, _, _, rfl, rfl, kX _ _ eL List.not_mem_nil, eW2, Nat.le_trans (by omega : us.length + vs.length ≤ 1000) (small1000 (by omega)), fun S nS => ?_⟩
        have kS := kX.trans (Keep.new (av := []) (o := .lst (us ++ vs)) nS)
        refine ⟨S, us ++ vs, _, _, _, rfl, kG.trans kS, (kHG.trans kX).fr nS, upd_same, by rw [List.length_append]; omega, ?_⟩
        have e : plsL n ps (j + 1) = plsL n ps j ++ (List.range ((pr ps i).l - 1).toNat).map (fun a : Nat => [i, 1 + (a : Int)]) := by
          unfold plsL
          rw [List.range_succ, List.flatMap_append, ← List.append_assoc, je]
          simp
        rw [e, List.map_append]
        exact (du.keep kS.of).app ((dv.less fun a m => List.mem_cons_of_mem _ m).keep (Keep.new nS))
    · obtain ⟨L, us, s1, s3, s4, rfl, kG, fL, eL, lu, du⟩ := z
      rw [show ((xp.length : Int)).toNat = ps.length by omega] at du lu
      exact ⟨.ref L, rfl, k G L us (kM.trans kG) (tav kG) fL eL (by omega) du⟩
end
end Rw

namespace Rw
open PySem PySem.Spec PyProof.Rows L2
/-! ### the places next to each place, lists that grow where they lie -/
def KeepT (G G' : Hp) : Prop := ∀ t xs, G t = some (.tup xs) → G' t = some (.tup xs)
theorem KeepT.of {G G' : Hp} (k : Keep [] G G') : KeepT G G' := fun t xs e => k t _ e List.not_mem_nil
theorem KeepT.lst {G : Hp} {L : Addr} {us vs : List V} (e : G L = some (.lst us)) : KeepT G (upd G L (.lst vs)) := fun t xs et => by
  have ne : t ≠ L := fun z => by rw [z, e] at et; cases et
  rw [upd_ne ne]; exact et
theorem KeepT.dct {G : Hp} {L : Addr} {us vs : List (List Key × V)} (e : G L = some (.dT us)) : KeepT G (upd G L (.dT vs)) := fun t xs et => by
  have ne : t ≠ L := fun z => by rw [z, e] at et; cases et
  rw [upd_ne ne]; exact et
def TA (G : Hp) (ts : List Addr) (qs : List Pl) : Prop := ts.length = qs.length ∧ ∀ (i : Nat) (t : Addr) (q : Pl), ts[i]? = some t → qs[i]? = some q → G t = some (.tup (q.map V.int))
theorem TA.keep {G G' : Hp} {ts : List Addr} {qs : List Pl} (h : TA G ts qs) (k : KeepT G G') : TA G' ts qs := ⟨h.1, fun i t q a b => k _ _ (h.2 i t q a b)⟩
theorem TA.snoc {G : Hp} {ts : List Addr} {qs : List Pl} (h : TA G ts qs) {t : Addr} {q : Pl} (e : G t = some (.tup (q.map V.int))) : TA G (ts ++ [t]) (qs ++ [q]) := by
  refine ⟨by rw [List.length_append, List.length_append, h.1]; rfl, fun i t' q' a b => ?_⟩
  by_cases c : i < ts.length
  · rw [List.getElem?_append_left c] at a
    rw [List.getElem?_append_left (by rw [← h.1]; exact c)] at b
    exact h.2 i t' q' a b
  · have hi := (List.getElem?_eq_some_iff.mp a).1
    rw [List.length_append, List.length_singleton] at hi
    have ei : i = ts.length := by omega
    subst ei
    rw [List.getElem?_append_right (Nat.le_refl _), Nat.sub_self] at a
    rw [List.getElem?_append_right (by rw [h.1]; exact Nat.le_refl _), h.1, Nat.sub_self] at b
    cases a; cases b; exact e
structure Nxs (G : Hp) (kvs : List (List Key × V)) (R : Pl → Pl → Prop) (A : Pl → Prop) (m : Nat) : Prop where
  at_ : ∀ p, A p → ∃ (L : Addr) (ts : List Addr) (qs : List Pl), valV kvs (keyOf p) = some (.ref L) ∧ G L = some (.lst (ts.map V.ref)) ∧ TA G ts qs ∧ ts.length ≤ m ∧ qs.Nodup ∧ ∀ q, q ∈ qs ↔ R p q
  inj : ∀ p p' L, A p → A p' → valV kvs (keyOf p) = some (.ref L) → valV kvs (keyOf p') = some (.ref L) → p = p'
theorem Nxs.keep {G G' : Hp} {kvs : List (List Key × V)} {R : Pl → Pl → Prop} {A : Pl → Prop} {m : Nat} (h : Nxs G kvs R A m) (k : Keep [] G G') : Nxs G' kvs R A m := ⟨fun p a => by
  obtain ⟨L, ts, qs, e1, e2, e3, e4⟩ := h.at_ p a
  exact ⟨L, ts, qs, e1, k _ _ e2 List.not_mem_nil, e3.keep (.of k), e4⟩, h.inj⟩
theorem Nxs.same {G : Hp} {kvs : List (List Key × V)} {R R' : Pl → Pl → Prop} {A : Pl → Prop} {m m' : Nat} (h : Nxs G kvs R A m) (hm : m ≤ m') (hR : ∀ p, A p → ∀ q, R p q ↔ R' p q) : Nxs G kvs R' A m' := ⟨fun p a => by
  obtain ⟨L, ts, qs, e1, e2, e3, e4, e5, e6⟩ := h.at_ p a
  exact ⟨L, ts, qs, e1, e2, e3, by omega, e5, fun q => (e6 q).trans (hR p a q)⟩, h.inj⟩
theorem putK_key {kvs : List (List Key × V)} {k : List Key} {v : V} {x : List Key × V} (m : x ∈ putK kvs k v) : (∃ y ∈ kvs, y.1 = x.1) ∨ x.1 = k := by
  unfold putK at m
  split at m
  · obtain ⟨y, my, rfl⟩ := List.mem_map.mp m
    by_cases c : y.1 = k
    · rw [if_pos c]; exact .inr c
    · rw [if_neg c]; exact .inl ⟨y, my, rfl⟩
  · rcases List.mem_append.mp m with m | m
    · exact .inl ⟨x, m, rfl⟩
    · rw [List.mem_singleton.mp m]; exact .inr rfl
/-! a new empty list for a place -/
theorem Nxs.first {G : Hp} {kvs : List (List Key × V)} {R : Pl → Pl → Prop} {A : Pl → Prop} {m : Nat} (h : Nxs G kvs R A m) {p : Pl} {L Fd : Addr} (nL : G L = none) (eF : G Fd = some (.dT kvs)) (hR : ∀ q, ¬ R p q) {k' : List (List Key × V)} (hk' : k' = putK kvs (keyOf p) (.ref L)) :
    Nxs (upd (upd G L (.lst [])) Fd (.dT k')) k' R (fun z => A z ∨ z = p) m := by
  subst hk'
  have nFL : Fd ≠ L := ne_of_none eF nL
  have e1 : (upd G L (.lst [])) Fd = some (.dT kvs) := by rw [upd_ne nFL]; exact eF
  have kt : KeepT G (upd (upd G L (.lst [])) Fd (.dT (putK kvs (keyOf p) (.ref L)))) := fun t xs e => KeepT.dct e1 t xs (KeepT.of (Keep.new nL) t xs e)
  refine ⟨fun z a => ?_, fun z z' M a a' v v' => ?_⟩
  · by_cases c : z = p
    · subst c
      refine ⟨L, [], [], by rw [valV_put, if_pos rfl], by rw [upd_ne nFL.symm]; exact upd_same, ⟨rfl, fun i t q e _ => by cases e⟩, Nat.zero_le _, List.nodup_nil, fun q => ⟨fun m => (nomatch m), fun w => absurd w (hR q)⟩⟩
    · obtain ⟨L', ts, qs, e1', e2, e3, e4⟩ := h.at_ z (a.resolve_right c)
      have nF' : L' ≠ Fd := fun w => by rw [w, eF] at e2; cases e2
      exact ⟨L', ts, qs, by rw [valV_put, if_neg (fun w => c (keyOf_inj w))]; exact e1', by rw [upd_ne nF', upd_ne (ne_of_none e2 nL)]; exact e2, e3.keep kt, e4⟩
  · have old : ∀ {z : Pl}, A z ∨ z = p → z ≠ p → ∀ {M : Addr}, valV (putK kvs (keyOf p) (.ref L)) (keyOf z) = some (.ref M) → A z ∧ valV kvs (keyOf z) = some (.ref M) ∧ M ≠ L := fun {z} a c {M} v => by
      rw [valV_put, if_neg (fun w => c (keyOf_inj w))] at v
      obtain ⟨L', ts, qs, e1', e2, _⟩ := h.at_ z (a.resolve_right c)
      rw [v] at e1'
      cases e1'
      exact ⟨a.resolve_right c, v, ne_of_none e2 nL⟩
    have new : ∀ {z : Pl}, z = p → ∀ {M : Addr}, valV (putK kvs (keyOf p) (.ref L)) (keyOf z) = some (.ref M) → M = L := fun {z} c {M} v => by
      rw [valV_put, if_pos (by rw [c])] at v
      cases v; rfl
    by_cases c : z = p <;> by_cases c' : z' = p
    · rw [c, c']
    · exact absurd (new c v) (old a' c' v').2.2
    · exact absurd (new c' v') (old a c v).2.2
    · exact h.inj z z' M (old a c v).1 (old a' c' v').1 (old a c v).2.1 (old a' c' v').2.1
/-! one more at the end of a place's list -/
theorem Nxs.more {G : Hp} {kvs : List (List Key × V)} {R : Pl → Pl → Prop} {A : Pl → Prop} {m : Nat} (h : Nxs G kvs R A m) {p q : Pl} {L t : Addr} {us : List V} (a : A p) (v : valV kvs (keyOf p) = some (.ref L)) (eL : G L = some (.lst us)) (et : G t = some (.tup (q.map V.int))) (nR : ¬ R p q) :
    Nxs (upd G L (.lst (us ++ [.ref t]))) kvs (fun x y => R x y ∨ (x = p ∧ y = q)) A (m + 1) := by
  refine ⟨fun z az => ?_, h.inj⟩
  obtain ⟨L', ts, qs, e1, e2, e3, e4, e5, e6⟩ := h.at_ z az
  have kt := KeepT.lst (vs := us ++ [.ref t]) eL
  by_cases c : z = p
  · subst c
    rw [v] at e1
    cases e1
    rw [eL] at e2
    cases e2
    refine ⟨L, ts ++ [t], qs ++ [q], v, by rw [upd_same, List.map_append]; rfl, (e3.snoc et).keep kt, by rw [List.length_append]; show ts.length + 1 ≤ m + 1; omega, List.nodup_append.mpr ⟨e5, by simp, fun x hx y hy w => nR ((e6 q).mp (by rw [← List.mem_singleton.mp hy, ← w]; exact hx))⟩, fun y => ?_⟩
    rw [List.mem_append, List.mem_singleton, e6 y]
    exact ⟨fun w => w.elim .inl (fun w => .inr ⟨rfl, w⟩), fun w => w.elim .inl (fun w => .inr w.2)⟩
  · have ne : L' ≠ L := fun w => c (h.inj z p L az a (by rw [← w]; exact e1) v)
    refine ⟨L', ts, qs, e1, by rw [upd_ne ne]; exact e2, e3.keep kt, by omega, e5, fun y => (e6 y).trans ⟨.inl, fun w => w.elim id (fun w => absurd w.1 c)⟩⟩
theorem Nxs.sub {G : Hp} {kvs : List (List Key × V)} {R : Pl → Pl → Prop} {A A' : Pl → Prop} {m : Nat} (h : Nxs G kvs R A m) (hA : ∀ z, A' z → A z) : Nxs G kvs R A' m := ⟨fun p a => h.at_ p (hA p a), fun p p' L a a' => h.inj p p' L (hA p a) (hA p' a')⟩
section
variable {P : Program} {w : World} {K : PySem.W.Frag} {mg : Str → Option Value} {base : Heap}
abbrev sNxL : Stmt := topS 37
abbrev nNxL : List Str := ["_law_house_here", "_law_found", "_law_place", "_law_pipe", "_law_at", "_law_low", "_law_high"]
theorem scNxL : FnScope nNxL ["_law_house_here"] (defScope sNxL) := ⟨rfl, rfl, rfl, by decide +kernel, rfl, by decide +kernel, by decide +kernel⟩
def spNxL : Sp := fun vs H Q _ => ∃ (h : V) (n : Int) (ps : List Pi) (d : Int → Int → Int), vs = [h] ∧ Dt [] H h (houseD n (ps.map Pi.dat)) ∧ HouseOk n ps ∧ Tm n ps d ∧ (∀ p ∈ ps, p.l ≤ 10) ∧
  ∀ (H' : Hp) (Fd : Addr) (kvs : List (List Key × V)), Keep [] H H' → H Fd = none → H' Fd = some (.dT kvs) → Nxs H' kvs (Adj ps) (okP n ps) 1000 → (∀ p L, valV kvs (keyOf p) = some (.ref L) → H L = none) → (kvs.length ≤ 200 ∧ ∀ x ∈ kvs, ∃ p, okP n ps p ∧ x.1 = keyOf p) → Q (.ref Fd) H'
theorem ok_nxL (h : Has K mg "_law_nexts" sNxL) (B : Blt mg) (CP : Can P w K mg base "_law_places" ["_law_house_here"] 1 spPls) (CS : Can P w K mg base "_law_spot" ["_law_house_here", "_law_pipe", "_law_at"] 1 spSpt) : Can P w K mg base "_law_nexts" ["_law_house_here"] 2 spNxL := by
  obtain ⟨f, fd, F, g⟩ := h
  refine ⟨f, fd, F.ok (k := 1) scNxL (fun vs H Q E h => ?_) (fun cdv A outer s H vs Q E hr h => ?_), g, F.kp, F.binds fun _ _ _ _ _ _ us hl => match us, hl with | [_], _ => rfl⟩
  · obtain ⟨h, n, ps, d, rfl, _⟩ := h
    rfl
  · obtain ⟨h, n, ps, d, rfl, hh, hk, T, short, k⟩ := h
    refine ⟨_, pss_cons (ps_set (i := 1) scNxL.nd rfl (by first | exact Or.inl rfl | exact Or.inr rfl) pe_dnewT)
      (pss_cons (ps_for PassesOwn.never rfl (pi_list (pe_can CP (hr.mono (by decide)) (by rfl) (pa_cons (pv 0) pa_nil))) (pg_name (i := 2) scNxL.nd rfl (by first | exact Or.inl rfl | exact Or.inr rfl))
      (pss_one (ps_dput (hu_of hr) (pv 1) (pv 2) (pe_lst pa_nil) rfl)))
      (pss_cons (ps_for PassesOwn.never rfl (pi_range1 (by rfl) B.range_ (pa_cons (pe_callB call_len_seq (by rfl) B.len_ PySem.boot_len (pa_cons (pe_ix ix_tup (pv 0) pe_int (fun _ _ => rfl)) pa_nil)) pa_nil)) (pg_name (i := 3) scNxL.nd rfl (by first | exact Or.inl rfl | exact Or.inr rfl))
      (pss_one (ps_for PassesOwn.never rfl (pi_range1 (by rfl) B.range_ (pa_cons (pe_ix ix_tup (pe_ix ix_tup (pe_ix ix_tup (pv 0) pe_int (fun _ _ => rfl)) (pv 3) (fun _ _ => rfl)) pe_int (fun _ _ => rfl)) pa_nil)) (pg_name (i := 4) scNxL.nd rfl (by first | exact Or.inl rfl | exact Or.inr rfl))
      (pss_cons (ps_par (i := 5) (j := 6) (by rfl) scNxL.nd rfl rfl (by decide) rfl rfl (pa_cons (pe_can CS (hr.mono (by decide)) (by rfl) (pa_cons (pv 0) (pa_cons (pv 3) (pa_cons (pv 4) pa_nil)))) (pa_cons (pe_can CS (hr.mono (by decide)) (by rfl) (pa_cons (pv 0) (pa_cons (pv 3) (pa_cons (pe_op op_add (pv 4) pe_int) pa_nil)))) pa_nil)) (by rfl))
      (pss_cons (ps_expr (pe_bm PySem.F.plainAttrs_list PySem.F.slot_list_append PySem.F.type_list_append mt_append (pe_dget (hu_of hr) (pv 1) (pv 5) (fun _ _ => rfl)) (pa_cons (pv 6) pa_nil)))
      (pss_one (ps_expr (pe_bm PySem.F.plainAttrs_list PySem.F.slot_list_append PySem.F.type_list_append mt_append (pe_dget (hu_of hr) (pv 1) (pv 6) (fun _ _ => rfl)) (pa_cons (pv 5) pa_nil)))))))))
      (pss_one (ps_ret (pv 1))))), ?_⟩
    have n1 := hk.n1
    have n16 := hk.n2
    have ln := hk.len
    obtain ⟨ah, ap, xp, rfl, na, ea, nb, eb, db⟩ := house_parts hh
    have xl : xp.length = ps.length := by rw [db.len, List.length_map]
    refine fun Fd nF => ?_
    have kF : Keep [] H (upd H Fd (.dT [])) := Keep.new nF
    have eF : (upd H Fd (.dT [])) Fd = some (.dT []) := upd_same
    generalize upd H Fd (.dT []) = G0 at kF eF ⊢
    refine ⟨.ref ah, rfl, .ref ah, n, ps, [Fd], rfl, hh.keep kF, hk, short, (fun a m => by rw [List.mem_singleton.mp m]; exact ⟨_, eF⟩), fun G1 Lp us k1 _ fLp eLp lu du => ?_⟩
    have nLp : Lp ∉ [Fd] := fun m => by rw [List.mem_singleton.mp m, eF] at fLp; cases fLp
    have eF1 := k1 _ _ eF List.not_mem_nil
    have lz : us.length = (plsL n ps ps.length).length := by rw [du.len, List.length_map]
    have kH1 := kF.trans k1
    generalize hzs : plsL n ps ps.length = zs at du lz
    refine ⟨Lp, rfl, ⟨_, SqL.of eLp⟩, for_list (K := K) (a := Lp) (xs := us) (fun t σ G => ∃ (s2 : Option V) (kvs : List (List Key × V)), σ = [some (.ref ah), some (.ref Fd), s2, none, none, none, none] ∧ Keep [Fd] G1 G ∧ Keep [] H G ∧ G Fd = some (.dT kvs) ∧ kvs.length ≤ t ∧ ((∀ p L, valV kvs (keyOf p) = some (.ref L) → H L = none) ∧ ∀ x ∈ kvs, ∃ p ∈ zs, x.1 = keyOf p) ∧ Nxs G kvs (fun _ _ => False) (fun z => z ∈ zs.take t) 0)
      ⟨none, [], rfl, Keep.refl _ _, kH1, eF1, Nat.le_refl _, ⟨fun p L z => (by cases z), fun _ m => absurd m List.not_mem_nil⟩, ⟨fun z m => absurd m (by rw [List.take_zero]; exact List.not_mem_nil), fun z _ _ m => absurd m (by rw [List.take_zero]; exact List.not_mem_nil)⟩⟩ (fun t σ G _ z => ?_) (fun t y σ G gy z => ?_) (fun σ G z => ?_)⟩
    · obtain ⟨_, _, _, kG, _⟩ := z
      exact SqL.of (kG Lp _ eLp nLp)
    · obtain ⟨s2, kvs, rfl, kG, kHG, eG, lk, ⟨fr, fk⟩, nx⟩ := z
      obtain ⟨dd, gd, dy⟩ := (du.keep kG).getv t gy
      rw [List.getElem?_map] at gd
      obtain ⟨z, gz, rfl⟩ := Option.map_eq_some_iff.mp gd
      obtain ⟨ty, rfl, _, ety⟩ := tupI_at dy
      have ht := (List.getElem?_eq_some_iff.mp gy).1
      refine ⟨show 0 ≤ sizeLine by decide, fun L nL => ?_⟩
      have kL := Keep.new (av := []) (o := .lst []) nL
      refine ⟨.ref Fd, rfl, .ref ty, rfl, Fd, _, rfl, DPut.t (k := keyOf z) (kL _ _ eG List.not_mem_nil) (by rw [keyOf_kV]; exact kL _ _ ety List.not_mem_nil) (Nat.lt_of_le_of_lt (show kvs.length ≤ 200 by omega) (by decide)), ?_⟩
      have nf := nx.first (p := z) nL eG (fun _ w => w) rfl
      refine ⟨_, _, rfl, kG.trans (kL.of.trans (Keep.put (List.mem_singleton.mpr rfl))), (kHG.trans kL).upd nF, upd_same, Nat.le_trans (DSub.putK_len _ _ _) (by omega), ⟨fun p L' v => ?_, fun x m => (putK_key m).elim (fun ⟨x', m', e'⟩ => by rw [← e']; exact fk x' m') (fun e' => ⟨z, List.mem_of_getElem? gz, e'⟩)⟩, nf.sub fun w m => ?_⟩
      · rw [valV_put] at v
        split at v
        · cases v; exact kHG.fr nL
        · exact fr p L' v
      · rw [List.take_add_one, gz] at m
        exact (List.mem_append.mp m).imp id (fun m => by simpa using m)
    obtain ⟨s2, kvs, rfl, kG, kHG, eG, lk, ⟨fr, fk⟩, nx⟩ := z
    have fin : kvs.length ≤ 200 ∧ ∀ x ∈ kvs, ∃ p, okP n ps p ∧ x.1 = keyOf p := ⟨by omega, fun x m => by
      obtain ⟨p, mp, e'⟩ := fk x m
      rw [← hzs] at mp
      exact ⟨p, pls_mem.mp mp, e'⟩⟩
    have nx0 : Nxs G kvs (AdjTo ps (0 : Nat) 0) (okP n ps) 0 := (nx.sub fun z oz => by rw [lz, List.take_length, ← hzs]; exact pls_mem.mpr oz).same (Nat.le_refl _) fun p _ q => ⟨fun w => w.elim, fun w => by obtain ⟨j, a, h0, h | h, _⟩ := w <;> omega⟩
    clear nx
    have tn : ∀ (X : Hp), Tr [] X := fun _ _ m => (nomatch m)
    refine ⟨.ref ah, rfl, ah, [.int n, .ref ap], 1, .ref ap, rfl, rfl, SqT.of (kHG _ _ ea List.not_mem_nil), atI_nat (j := 1) rfl, ap, _, rfl, .inr (SqT.of (kHG _ _ eb List.not_mem_nil)), _, rfl, by omega, by omega, for_range (lo := 0) (n := ((xp.length : Int)).toNat)
      (fun i σ G => ∃ (s2 s3 s4 s5 s6 : Option V), σ = [some (.ref ah), some (.ref Fd), s2, s3, s4, s5, s6] ∧ Keep [] H G ∧ G Fd = some (.dT kvs) ∧ Nxs G kvs (AdjTo ps (i : Nat) 0) (okP n ps) (20 * i))
      ⟨_, _, _, _, _, rfl, kHG, eG, nx0⟩ (fun i σ G hi z => ?_) (fun σ G z => ?_)⟩
    rotate_left
    · obtain ⟨s2, s3, s4, s5, s6, rfl, kG, eG, nx⟩ := z
      exact ⟨.ref Fd, rfl, k G Fd kvs kG nF eG (nx.same (by omega) fun p _ q => by rw [show (((((xp.length : Int)).toNat : Nat)) : Int) = (ps.length : Int) by omega]; exact AdjTo.all) fr fin⟩
    obtain ⟨s2, s3, s4, s5, s6, rfl, kG, eG, nx⟩ := z
    have i0 : (0 : Int) ≤ (i : Int) := by omega
    have i1 : (i : Int) < ps.length := by omega
    rw [show 0 + (i : Int) = (i : Int) by omega]
    obtain ⟨p', pa, T1, T2, mp, gp, ga, epa⟩ := pi_at db i0 i1
    have epr : p' = pr ps (i : Int) := by
      have z := (pr_mem i0 i1).2
      rw [z] at gp; exact (Option.some.inj gp).symm
    subst epr
    have l1 := (hk.ok _ mp).fit.l1
    have l10 := short _ mp
    refine ⟨.ref ah, rfl, ah, [.int n, .ref ap], 1, .ref ap, rfl, rfl, SqT.of (kG _ _ ea List.not_mem_nil), atI_nat (j := 1) rfl, .int (i : Int), rfl, ap, _, (i : Int), .ref pa, rfl, rfl, SqT.of (kG _ _ eb List.not_mem_nil), ga, pa, _, 2, .int (pr ps (i : Int)).l, rfl, rfl, SqT.of (kG _ _ epa List.not_mem_nil), atI_nat (j := 2) rfl, (pr ps (i : Int)).l, rfl, by omega, by omega, for_range (lo := 0) (n := (pr ps (i : Int)).l.toNat)
      (fun c σ G => ∃ (s2 s4 s5 s6 : Option V), σ = [some (.ref ah), some (.ref Fd), s2, some (.int (i : Int)), s4, s5, s6] ∧ Keep [] H G ∧ G Fd = some (.dT kvs) ∧ Nxs G kvs (AdjTo ps (i : Nat) (c : Nat)) (okP n ps) (20 * i + 2 * c))
      ⟨_, _, _, _, rfl, kG, eG, nx⟩ (fun c σ G hc z => ?_) (fun σ G z => ?_)⟩
    rotate_left
    · obtain ⟨s2, s4, s5, s6, rfl, kG, eG, nx⟩ := z
      refine ⟨_, _, _, _, _, rfl, kG, eG, nx.same (by omega) fun p _ q => ?_⟩
      rw [show (((pr ps (i : Int)).l.toNat : Nat) : Int) = (pr ps (i : Int)).l by omega, show (((i + 1 : Nat)) : Int) = (i : Int) + 1 by omega]
      exact AdjTo.next i0
    obtain ⟨s2, s4, s5, s6, rfl, kG, eG, nx⟩ := z
    rw [show 0 + (c : Int) = (c : Int) by omega]
    have c0 : (0 : Int) ≤ (c : Int) := by omega
    have c1 : (c : Int) < (pr ps (i : Int)).l := by omega
    refine ⟨.ref ah, rfl, .int (i : Int), rfl, .int (c : Int), rfl, .ref ah, n, (i : Int), (c : Int), ps, [], rfl, hh.keep kG, i0, i1, tn _, fun J1 x k1 _ _ dx => ?_⟩
    refine ⟨.ref ah, rfl, .int (i : Int), rfl, .int (c : Int), rfl, _, 1, rfl, rfl, .ref ah, n, (i : Int), (c : Int) + 1, ps, [], rfl, hh.keep (kG.trans k1), i0, i1, tn _, fun J2 y k2 _ _ dy => ⟨.ref x, .ref y, rfl, ?_⟩⟩
    have okA : okP n ps (nm ps (i : Int) (c : Int)) := ok_nm T i0 i1 c0 (by omega)
    have okB : okP n ps (nm ps (i : Int) ((c : Int) + 1)) := ok_nm T i0 i1 (by omega) (by omega)
    obtain ⟨_, ex', _, ex⟩ := tupI_at (dx.keep k2)
    cases ex'
    obtain ⟨_, ey', _, ey⟩ := tupI_at dy
    cases ey'
    have k12 := k1.trans k2
    have nx2 := nx.keep k12
    have eG2 := k12 _ _ eG List.not_mem_nil
    obtain ⟨L1, ts1, qs1, v1, e1, _, b1, _⟩ := nx2.at_ _ okA
    have dg1 := DGet.t (k := keyOf (nm ps (i : Int) (c : Int))) eG2 (by rw [keyOf_kV]; exact ex)
    rw [v1] at dg1
    refine ⟨.ref Fd, rfl, .ref x, rfl, Fd, .ref L1, rfl, dg1, .inl ⟨rfl, _, SqL.of e1⟩, .ref y, rfl, L1, _, _, rfl, rfl, e1, by rw [List.length_map]; exact Nat.lt_of_le_of_lt (show ts1.length ≤ 1000 by omega) (by decide), ?_⟩
    have nx3 := nx2.more okA v1 e1 ey (not_yet T i0 i1 c0 c1)
    have kt3 := KeepT.lst (vs := ts1.map V.ref ++ [.ref y]) e1
    have nF1 : Fd ≠ L1 := fun w => by rw [← w, eG2] at e1; cases e1
    have eG3 : (upd J2 L1 (.lst (ts1.map V.ref ++ [.ref y]))) Fd = some (.dT kvs) := by rw [upd_ne nF1]; exact eG2
    have kH3 : Keep [] H (upd J2 L1 (.lst (ts1.map V.ref ++ [.ref y]))) := (kG.trans k12).upd (fr _ _ v1)
    have ex3 := kt3 _ _ ex
    have ey3 := kt3 _ _ ey
    generalize upd J2 L1 (.lst (ts1.map V.ref ++ [.ref y])) = J3 at nx3 eG3 kH3 ex3 ey3 ⊢
    obtain ⟨L2, ts2, qs2, v2, e2, _, b2, _⟩ := nx3.at_ _ okB
    have dg2 := DGet.t (k := keyOf (nm ps (i : Int) ((c : Int) + 1))) eG3 (by rw [keyOf_kV]; exact ey3)
    rw [v2] at dg2
    refine ⟨.ref Fd, rfl, .ref y, rfl, Fd, .ref L2, rfl, dg2, .inl ⟨rfl, _, SqL.of e2⟩, .ref x, rfl, L2, _, _, rfl, rfl, e2, by rw [List.length_map]; exact Nat.lt_of_le_of_lt (show ts2.length ≤ 1000 by omega) (by decide), ?_⟩
    have nx4 := nx3.more okB v2 e2 ex3 (fun z => z.elim (fun w => not_yet T i0 i1 c0 c1 (AdjTo.sym' T w)) (fun w => nm_next T i0 i1 c0 c1 w.2))
    have nF2 : Fd ≠ L2 := fun w => by rw [← w, eG3] at e2; cases e2
    refine ⟨_, _, _, _, rfl, kH3.upd (fr _ _ v2), by rw [upd_ne nF2]; exact eG3, nx4.same (by omega) fun p _ q => ?_⟩
    rw [show (((c + 1 : Nat)) : Int) = (c : Int) + 1 by omega]
    exact (AdjTo.step i0 c0).symm
end
end Rw

namespace Rw
open PySem PySem.Spec PyProof.Rows L2
section
variable {P : Program} {w : World} {K : PySem.W.Frag} {mg : Str → Option Value} {base : Heap}
abbrev sRpe : Stmt := topS 39
abbrev nRpe : List Str := ["_law_stream_here", "_law_length", "_law_behind", "_law_some"]
theorem scRpe : FnScope nRpe ["_law_stream_here", "_law_length"] (defScope sRpe) := ⟨rfl, rfl, rfl, by decide +kernel, rfl, by decide +kernel, by decide +kernel⟩
def spRpe : Sp := fun vs H Q _ => ∃ (D C : Addr) (b l : Int) (av : List Addr), vs = [.ref D, .int l] ∧ 1 ≤ l ∧ l ≤ 300 ∧ Dq H D C b ∧ b ≤ 90000 ∧ Tr av H ∧ D ∈ av ∧
  ∀ (H' : Hp) (x : Addr) (ks : List (Int × Int)), Keep [D] H H' → Dq H' D C (b + 310) → Dt av H' (.ref x) (ropeD l ks) → okR l ks → Q (.ref x) H'
theorem ok_rpe (h : Has K mg "_law_rope" sRpe) (B : Blt mg) (CT : Can P w K mg base "_law_take" ["_law_stream_here", "_law_below"] 1 spTk) : Can P w K mg base "_law_rope" ["_law_stream_here", "_law_length"] 2 spRpe := by
  obtain ⟨f, fd, F, g⟩ := h
  refine ⟨f, fd, F.ok (k := 1) scRpe (fun vs H Q E h => ?_) (fun cdv A outer s H vs Q E hr h => ?_), g, F.kp, F.binds fun _ _ _ _ _ _ us hl => match us, hl with | [_, _], _ => rfl⟩
  · obtain ⟨D, C, b, l, av, rfl, _⟩ := h
    rfl
  · obtain ⟨D, C, b, l, av, rfl, l0, l1, dk, hb, tr, mD, q⟩ := h
    refine ⟨_, pss_cons (ps_set (i := 3) scRpe.nd rfl (by first | exact Or.inl rfl | exact Or.inr rfl) (pe_slice sl_list (pe_lc (own := [("_law_behind", 2)]) (g := gName 2) rfl scRpe.nd (pi_range1 (by rfl) B.range_ (pa_cons (pe_op op_add (pv 1) pe_int) pa_nil)) (blkOk_by (N := nRpe) (sc := defScope sRpe) (by decide +kernel)) (fun _ _ _ _ _ => (pg_name (i := 2) scRpe.nd rfl (by first | exact Or.inl rfl | exact Or.inr rfl))) (fun _ _ _ _ _ => pts_one (pt_cmpR op_eq (pe_can CT (hr.mono (by decide)) (by rfl) (pa_cons (pv 0) (pa_cons pe_int pa_nil))) pe_int (nomark _))) (fun _ _ _ _ _ => (pv 2))) po_none (po_some pe_int)))
      (pss_one (ps_ret (pe_tup (pa_cons (pv 1) (pa_cons (pe_callTy call_tuple_of (by rfl) B.tuple_ boot_tuple (pa_cons (pe_lc (own := [("_law_behind", 2)]) (g := gName 2) (tt := tYes) rfl scRpe.nd (pi_list (pv 3)) (blkOk_by (N := nRpe) (sc := defScope sRpe) (by decide +kernel)) (fun _ _ _ _ _ => (pg_name (i := 2) scRpe.nd rfl (by first | exact Or.inl rfl | exact Or.inr rfl))) (fun _ _ _ _ _ => pts_nil) (fun _ _ _ _ _ => (pe_tup (pa_cons (pv 2) (pa_cons (pe_op op_add pe_int (pe_can CT (hr.mono (by decide)) (by rfl) (pa_cons (pv 0) (pa_cons pe_int pa_nil)))) pa_nil))))) pa_nil)) pa_nil))))), ?_⟩
    refine ⟨.int l, rfl, l, 1, rfl, rfl, l + 1, rfl, by omega, by omega, fun W nW => ?_⟩
    have hW := dk.nes nW
    refine lc_range (lo := 0) (n := (l + 1).toNat) (fun u M => Keep [D] H M ∧ Dq M D C (b + u) ∧ ∃ bs : List Int, M W = some (.lst (bs.map V.int)) ∧ bs.Pairwise (· < ·) ∧ (∀ x ∈ bs, 0 ≤ x ∧ x < u) ∧ bs.length ≤ u)
      ⟨(Keep.new nW).of, (dk.new nW).mono (by omega), [], upd_same, List.Pairwise.nil, fun _ m => (nomatch m), Nat.le_refl _⟩ (fun u M hu z => ?_) (fun M z => ?_)
    · obtain ⟨kM, dM, bs, eW, pw, hb', lb⟩ := z
      refine ⟨rfl, .ref D, rfl, D, C, _, 4, rfl, by decide, by decide, dM, by omega, fun M2 k kM2 dM2 k0 k1 => ?_⟩
      have eW2 := kM2 W _ eW (fun m => hW.1 (List.mem_singleton.mp m))
      refine ⟨rfl, _, rfl, ite2 (fun c => ?_) (fun c => ⟨kM.trans kM2, dM2.mono (by omega), bs, eW2, pw, fun x m => ⟨(hb' x m).1, by have := (hb' x m).2; omega⟩, by omega⟩)⟩
      refine ⟨.int (0 + (u : Int)), rfl, _, eW2, by rw [List.length_map]; exact Nat.lt_of_lt_of_le (by omega : bs.length < 1000) (small1000 (by omega)), (kM.trans kM2).upd nW, (dM2.other hW.1 hW.2).mono (by omega), bs ++ [(u : Int)], by rw [upd_same, List.map_append, show (0 + (u : Int)) = (u : Int) by omega]; rfl, ?_, fun x m => ?_, by rw [List.length_append]; show bs.length + 1 ≤ _; omega⟩
      · exact List.pairwise_append.mpr ⟨pw, List.pairwise_singleton _ _, fun x m y hy => by rw [List.mem_singleton.mp hy]; exact (hb' x m).2⟩
      · rcases List.mem_append.mp m with m | m
        · have := hb' x m
          exact ⟨this.1, by omega⟩
        · rw [List.mem_singleton.mp m]; exact ⟨by omega, by omega⟩
    obtain ⟨kM, dM, bs, eW, pw, hb', lb⟩ := z
    dsimp only [tNoPart, tPart]
    refine ⟨2, rfl, W, _, rfl, SqL.of eW, fun N nN => ?_⟩
    have ec : cutV (bs.map V.int) none (some 2) = (bs.take 2).map V.int := by
      rw [show (some (2 : Int)) = some ((2 : Nat) : Int) from rfl, cut_to, List.map_take]
    rw [ec]
    have kN : Keep [D] H (upd M N (.lst ((bs.take 2).map V.int))) := kM.trans (Keep.new nN)
    have dN := dM.new (o := .lst ((bs.take 2).map V.int)) nN
    have eN : (upd M N (.lst ((bs.take 2).map V.int))) N = some (.lst ((bs.take 2).map V.int)) := upd_same
    have hN := dM.nes nN
    generalize upd M N (.lst ((bs.take 2).map V.int)) = G0 at kN dN eN ⊢
    have pw2 : (bs.take 2).Pairwise (· < ·) := pw.sublist (List.take_sublist _ _)
    have in2 : ∀ x ∈ bs.take 2, 0 ≤ x ∧ x ≤ l := fun x m => by
      have := hb' x (List.mem_of_mem_take m)
      exact ⟨this.1, by omega⟩
    have len2 : (bs.take 2).length ≤ 2 := by rw [List.length_take]; omega
    generalize bs.take 2 = cs at eN pw2 in2 len2
    refine ⟨.int l, rfl, .ref N, rfl, N, rfl, ⟨_, SqL.of eN⟩, fun W2 nW2 => ?_⟩
    have hW2 := dN.nes nW2
    have nWN : N ≠ W2 := ne_of_none eN nW2
    refine lc_list (K := K) (a := N) (xs := cs.map V.int) (fun t X => Keep [D] G0 X ∧ Dq X D C (b + (l + 1).toNat + t) ∧ ∃ (vs : List V) (ks : List (Int × Int)), X W2 = some (.lst vs) ∧ vs.length = t ∧ Dts (W2 :: av) X vs (ks.map prD) ∧ ks.map Prod.fst = cs.take t ∧ ∀ k ∈ ks, 1 ≤ k.2 ∧ k.2 ≤ 3)
      ⟨(Keep.new nW2).of, (dN.new nW2).mono (by omega), [], [], upd_same, rfl, .nil, rfl, fun _ m => (nomatch m)⟩ (fun t X _ z => SqL.of (z.1 N _ eN (fun m => hN.1 (List.mem_singleton.mp m)))) (fun t y X gy z => ?_) (fun X z => ?_)
    · obtain ⟨kX, dX, vs, ks, eW2, lv, dv, fk, sz⟩ := z
      rw [List.getElem?_map] at gy
      obtain ⟨c, gc, rfl⟩ := Option.map_eq_some_iff.mp gy
      have ht := (List.getElem?_eq_some_iff.mp gc).1
      refine ⟨rfl, .int c, rfl, .ref D, rfl, D, C, _, 3, rfl, by decide, by decide, dX, by omega, fun X2 k kX2 dX2 k0 k1 => ⟨1, k, rfl, rfl, show 2 ≤ sizeLine by decide, fun r nr => ?_⟩⟩
      have eW3 := kX2 W2 _ eW2 (fun m => hW2.1 (List.mem_singleton.mp m))
      have tr2 : Tr (W2 :: av) X2 := (tr.kp (kN.trans (kX.trans kX2)) dX2.tr).cons eW3
      obtain ⟨q1, t1, f1⟩ := tup_facts tr2 (ds := [.int c, .int (1 + k)]) (.cons (.int _) (.cons (.int _) .nil)) nr
      have kk : Keep (W2 :: av) X (upd X2 r (.tup [.int c, .int (1 + k)])) := (kX2.trans q1.of).mono fun z m => by rw [List.mem_singleton.mp m]; exact List.mem_cons_of_mem _ mD
      refine ⟨vs, q1 _ _ eW3 List.not_mem_nil, Nat.lt_of_le_of_lt (show vs.length ≤ 2 by omega) (by decide), ?_, ((dX2.keep q1).other hW2.1 hW2.2).mono (by omega), vs ++ [.ref r], ks ++ [(c, 1 + k)], upd_same, by rw [List.length_append, lv]; rfl, ?_, ?_, fun k' m => ?_⟩
      · exact (kX.trans (kX2.trans q1.of)).upd nW2
      · rw [List.map_append]
        exact lst_step dv kk f1
      · rw [List.map_append, fk, List.take_add_one, gc]; rfl
      · rcases List.mem_append.mp m with m | m
        · exact sz k' m
        · rw [List.mem_singleton.mp m]; exact ⟨show 1 ≤ 1 + k by omega, show 1 + k ≤ 3 by omega⟩
    · obtain ⟨kX, dX, vs, ks, eW2, lv, dv, fk, sz⟩ := z
      rw [List.length_map] at lv fk dX
      rw [List.take_length] at fk
      have lk : ks.length = cs.length := by rw [← fk, List.length_map]
      refine ⟨W2, vs, rfl, .inl ⟨SqL.of eW2, fun T nT => ?_⟩⟩
      have tX : Tr av X := tr.kp (kN.trans kX) dX.tr
      have dT : Dt av (upd X T (.tup vs)) (.ref T) (.tuple (ks.map prD)) := .tup (tX.not nT) upd_same ((dv.less fun a m => List.mem_cons_of_mem _ m).keep (Keep.new nT))
      have tT : Tr av (upd X T (.tup vs)) := tX.upd
      have kT : Keep [D] H (upd X T (.tup vs)) := kN.trans (kX.trans (Keep.new nT))
      have dqT := dX.new (o := .tup vs) nT
      generalize upd X T (.tup vs) = X2 at dT tT kT dqT ⊢
      refine ⟨show 2 ≤ sizeLine by decide, fun R nR => ?_⟩
      obtain ⟨q1, t1, f1⟩ := tup_facts tT (.cons (.int l) (.cons dT .nil)) nR
      refine q _ R ks (kT.trans q1.of) ((dqT.keep q1).mono (by omega)) f1 ⟨l0, by omega, rising_of (by rw [fk]; exact pw2) (fun k m => in2 _ (by rw [← fk]; exact List.mem_map.mpr ⟨k, m, rfl⟩)), fun k m => ⟨(sz k m).1, by have := (sz k m).2; omega⟩, by omega⟩
end
end Rw

namespace Rw
open PySem PySem.Spec PyProof.Rows L2
theorem pipe_tls {av : List Addr} {H : Hp} {pa T1 T2 : Addr} {p : Pi} {x y l : V} (h : Dt av H (.ref pa) p.dat) (e : H pa = some (.tup [x, y, l, .ref T1, .ref T2])) : Dt av H (.ref T1) (.tuple (p.na.map prD)) ∧ Dt av H (.ref T2) (.tuple (p.fl.map prD)) := by
  have h' : Dt av H (.ref pa) (.tuple [.int p.x, .int p.y, .int p.l, .tuple (p.na.map prD), .tuple (p.fl.map prD)]) := h
  obtain ⟨a, xs, ea, na, eb, db⟩ := tup_at h'
  cases ea
  rw [e] at eb
  cases eb
  cases db with
  | cons _ db => cases db with
    | cons _ db => cases db with
      | cons _ db => cases db with
        | cons d4 db => cases db with
          | cons d5 _ => exact ⟨d4, d5⟩
/-! ### how wide the narrow places are -/
structure Wdt (kvs : List (List Key × V)) (S : Int → Int → Int → Prop) : Prop where
  two : ∀ i a, (∃ w, S i a w ∧ valV kvs (keyOf [i, a]) = some (.int w)) ∨ ((∀ w, ¬ S i a w) ∧ valV kvs (keyOf [i, a]) = none)
  one : ∀ r, valV kvs (keyOf [r]) = none
theorem Wdt.put {kvs : List (List Key × V)} {S : Int → Int → Int → Prop} (h : Wdt kvs S) (i a w : Int) : Wdt (putK kvs (keyOf [i, a]) (.int w)) (fun x y z => S x y z ∨ (x = i ∧ y = a ∧ z = w)) := by
  refine ⟨fun x y => ?_, fun r => ?_⟩
  · rw [valV_put]
    by_cases c : x = i ∧ y = a
    · rw [if_pos (key2.mpr c)]
      exact .inl ⟨w, .inr ⟨c.1, c.2, rfl⟩, rfl⟩
    · rw [if_neg (fun z => c (key2.mp z))]
      rcases h.two x y with ⟨v, s, e⟩ | ⟨s, e⟩
      · exact .inl ⟨v, .inl s, e⟩
      · exact .inr ⟨fun v z => z.elim (s v) (fun z => c ⟨z.1, z.2.1⟩), e⟩
  · rw [valV_put, if_neg (fun z => by have := keyOf_inj z; simp at this)]
    exact h.one r
theorem Wdt.same {kvs : List (List Key × V)} {S S' : Int → Int → Int → Prop} (h : Wdt kvs S) (e : ∀ i a w, S i a w ↔ S' i a w) : Wdt kvs S' := ⟨fun i a => (h.two i a).imp (fun ⟨w, s, v⟩ => ⟨w, (e i a w).mp s, v⟩) (fun ⟨s, v⟩ => ⟨fun w z => s w ((e i a w).mpr z), v⟩), h.one⟩
section
variable {P : Program} {w : World} {K : PySem.W.Frag} {mg : Str → Option Value} {base : Heap}
abbrev sWds : Stmt := topS 40
abbrev nWds : List Str := ["_law_house_here", "_law_found", "_law_pipe", "_law_at", "_law_width"]
theorem scWds : FnScope nWds ["_law_house_here"] (defScope sWds) := ⟨rfl, rfl, rfl, by decide +kernel, rfl, by decide +kernel, by decide +kernel⟩
def spWds : Sp := fun vs H Q _ => ∃ (h : V) (n : Int) (ps : List Pi), vs = [h] ∧ Dt [] H h (houseD n (ps.map Pi.dat)) ∧ HouseOk n ps ∧
  ∀ (H' : Hp) (Fd : Addr) (kvs : List (List Key × V)), Keep [] H H' → H Fd = none → H' Fd = some (.dT kvs) → Wdt kvs (fun i a w => 0 ≤ i ∧ i < ps.length ∧ (a, w) ∈ (pr ps i).na) → Q (.ref Fd) H'
theorem ok_wds (h : Has K mg "_law_widths" sWds) (B : Blt mg) : Can P w K mg base "_law_widths" ["_law_house_here"] 1 spWds := by
  obtain ⟨f, fd, F, g⟩ := h
  refine ⟨f, fd, F.ok (k := 0) scWds (fun vs H Q E h => ?_) (fun cdv A outer s H vs Q E hr h => ?_), g, F.kp, F.binds fun _ _ _ _ _ _ us hl => match us, hl with | [_], _ => rfl⟩
  · obtain ⟨h, n, ps, rfl, _⟩ := h
    rfl
  · obtain ⟨h, n, ps, rfl, hh, hk, k⟩ := h
    refine ⟨_, pss_cons (ps_set (i := 1) scWds.nd rfl (by first | exact Or.inl rfl | exact Or.inr rfl) pe_dnewT)
      (pss_cons (ps_for PassesOwn.never rfl (pi_range1 (by rfl) B.range_ (pa_cons (pe_callB call_len_seq (by rfl) B.len_ PySem.boot_len (pa_cons (pe_ix ix_tup (pv 0) pe_int (fun _ _ => rfl)) pa_nil)) pa_nil)) (pg_name (i := 2) scWds.nd rfl (by first | exact Or.inl rfl | exact Or.inr rfl))
      (pss_one (ps_for PassesOwn.never rfl (pi_tup (pe_ix ix_tup (pe_ix ix_tup (pe_ix ix_tup (pv 0) pe_int (fun _ _ => rfl)) (pv 2) (fun _ _ => rfl)) pe_int (fun _ _ => rfl))) (pg_tup (by rfl) (pgs_cons (pg_name (i := 3) scWds.nd rfl (by first | exact Or.inl rfl | exact Or.inr rfl)) (pgs_cons (pg_name (i := 4) scWds.nd rfl (by first | exact Or.inl rfl | exact Or.inr rfl)) pgs_nil)))
      (pss_one (ps_dput (hu_of hr) (pv 1) (pe_tup (pa_cons (pv 2) (pa_cons (pv 3) pa_nil))) (pv 4) rfl)))))
      (pss_one (ps_ret (pv 1)))), ?_⟩
    have n16 := hk.n2
    have ln := hk.len
    obtain ⟨ah, ap, xp, rfl, na, ea, nb, eb, db⟩ := house_parts hh
    have xl : xp.length = ps.length := by rw [db.len, List.length_map]
    refine fun Fd nF => ?_
    have kF : Keep [] H (upd H Fd (.dT [])) := Keep.new nF
    have eF : (upd H Fd (.dT [])) Fd = some (.dT []) := upd_same
    generalize upd H Fd (.dT []) = G0 at kF eF ⊢
    refine ⟨.ref ah, rfl, ah, [.int n, .ref ap], 1, .ref ap, rfl, rfl, SqT.of (kF _ _ ea List.not_mem_nil), atI_nat (j := 1) rfl, ap, _, rfl, .inr (SqT.of (kF _ _ eb List.not_mem_nil)), _, rfl, by omega, by omega, for_range (lo := 0) (n := ((xp.length : Int)).toNat)
      (fun j σ G => ∃ (s2 s3 s4 : Option V) (kvs : List (List Key × V)), σ = [some (.ref ah), some (.ref Fd), s2, s3, s4] ∧ Keep [] H G ∧ G Fd = some (.dT kvs) ∧ kvs.length ≤ 3 * j ∧ Wdt kvs (fun i a w => 0 ≤ i ∧ i < (j : Int) ∧ (a, w) ∈ (pr ps i).na))
      ⟨none, none, none, [], rfl, kF, eF, Nat.le_refl _, ⟨fun i a => .inr ⟨fun w z => by omega, rfl⟩, fun r => rfl⟩⟩ (fun j σ G hj z => ?_) (fun σ G z => ?_)⟩
    rotate_left
    · obtain ⟨s2, s3, s4, kvs, rfl, kG, eG, lk, wd⟩ := z
      exact ⟨.ref Fd, rfl, k G Fd kvs kG nF eG (wd.same fun i a w => by rw [show (((((xp.length : Int)).toNat : Nat)) : Int) = (ps.length : Int) by omega])⟩
    obtain ⟨s2, s3, s4, kvs, rfl, kG, eG, lk, wd⟩ := z
    have j0 : (0 : Int) ≤ (j : Int) := by omega
    have j1 : (j : Int) < ps.length := by omega
    rw [show 0 + (j : Int) = (j : Int) by omega]
    obtain ⟨p', pa, T1, T2, mp, gp, ga, epa⟩ := pi_at db j0 j1
    have epr : p' = pr ps (j : Int) := by
      have z := (pr_mem j0 j1).2
      rw [z] at gp; exact (Option.some.inj gp).symm
    subst epr
    obtain ⟨v, ev, dpi⟩ := db.get ((j : Int)).toNat (d := (pr ps (j : Int)).dat) (by rw [List.getElem?_map, (pr_mem j0 j1).2]; rfl)
    have ev2 : v = .ref pa := by
      have z := atI_of j0 ev
      rw [ga] at z; exact (Option.some.inj z).symm
    subst ev2
    obtain ⟨d4, _⟩ := pipe_tls dpi epa
    obtain ⟨_, u1, eu1, _, eT1, dT1⟩ := tup_at d4
    cases eu1
    have sT1 : ∀ {X : Hp}, Keep [] H X → SqT K X T1 u1 := fun k => SqT.of (k _ _ eT1 List.not_mem_nil)
    have n3 := (hk.ok _ mp).fit.nle
    have lu1 : u1.length = (pr ps (j : Int)).na.length := by rw [dT1.len, List.length_map]
    refine ⟨.ref ah, rfl, ah, [.int n, .ref ap], 1, .ref ap, rfl, rfl, SqT.of (kG _ _ ea List.not_mem_nil), atI_nat (j := 1) rfl, .int (j : Int), rfl, ap, _, (j : Int), .ref pa, rfl, rfl, SqT.of (kG _ _ eb List.not_mem_nil), ga, pa, _, 3, .ref T1, rfl, rfl, SqT.of (kG _ _ epa List.not_mem_nil), atI_nat (j := 3) rfl, T1, rfl, ⟨_, sT1 kG⟩, for_tup (K := K) (a := T1) (xs := u1)
      (fun t σ G => ∃ (s3 s4 : Option V) (kvs : List (List Key × V)), σ = [some (.ref ah), some (.ref Fd), some (.int (j : Int)), s3, s4] ∧ Keep [] H G ∧ G Fd = some (.dT kvs) ∧ kvs.length ≤ 3 * j + t ∧ Wdt kvs (fun i a w => (0 ≤ i ∧ i < (j : Int) ∧ (a, w) ∈ (pr ps i).na) ∨ (i = (j : Int) ∧ (a, w) ∈ (pr ps (j : Int)).na.take t)))
      ⟨_, _, kvs, rfl, kG, eG, by omega, wd.same fun i a w => ⟨.inl, fun z => z.elim id (fun z => absurd z.2 (by rw [List.take_zero]; exact List.not_mem_nil))⟩⟩ (fun t σ G _ z => ?_) (fun t y σ G gy z => ?_) (fun σ G z => ?_)⟩
    · obtain ⟨_, _, _, _, kG, _⟩ := z
      exact sT1 kG
    · obtain ⟨s3, s4, kvs, rfl, kG, eG, lk, wd⟩ := z
      obtain ⟨dd, gd, dy⟩ := (dT1.keep kG).getv t gy
      rw [List.getElem?_map] at gd
      obtain ⟨c, gc, rfl⟩ := Option.map_eq_some_iff.mp gd
      obtain ⟨bb, ys, rfl, _, ebb, dbb⟩ := tup_at (show Dt [] G y (.tuple [.int c.1, .int c.2]) from dy)
      have hys : ys = [.int c.1, .int c.2] := Dts.unints (ns := [c.1, c.2]) dbb
      subst hys
      have ht := (List.getElem?_eq_some_iff.mp gy).1
      refine ⟨bb, _, rfl, SqT.of ebb, rfl, _, _, rfl, _, [], rfl, rfl, .int c.2, rfl, .ref Fd, rfl, .int (j : Int), rfl, .int c.1, rfl, show 2 ≤ sizeLine by decide, fun T nT => ?_⟩
      have kT := Keep.new (av := []) (o := .tup [.int (j : Int), .int c.1]) nT
      refine ⟨Fd, _, rfl, DPut.t (k := keyOf [(j : Int), c.1]) (kT _ _ eG List.not_mem_nil) (by rw [keyOf_kV]; exact upd_same) (Nat.lt_of_le_of_lt (show kvs.length ≤ 200 by omega) (by decide)), ?_⟩
      refine ⟨_, _, _, rfl, (kG.trans kT).upd nF, upd_same, Nat.le_trans (DSub.putK_len _ _ _) (by omega), (wd.put (j : Int) c.1 c.2).same fun i a w => ?_⟩
      rw [List.take_add_one, gc]
      show _ ↔ _ ∨ (_ ∧ (a, w) ∈ (pr ps (j : Int)).na.take t ++ [c])
      rw [List.mem_append, List.mem_singleton, or_assoc]
      refine or_congr_right ⟨fun z => z.elim (fun z => ⟨z.1, .inl z.2⟩) (fun z => ⟨z.1, .inr (by rw [z.2.1, z.2.2])⟩), fun z => z.2.elim (fun m => .inl ⟨z.1, m⟩) (fun m => .inr ⟨z.1, by rw [← m], by rw [← m]⟩)⟩
    · obtain ⟨s3, s4, kvs, rfl, kG, eG, lk, wd⟩ := z
      rw [lu1, List.take_length] at wd
      refine ⟨_, _, _, kvs, rfl, kG, eG, by omega, wd.same fun i a w => ⟨fun z => z.elim (fun z => ⟨z.1, by omega, z.2.2⟩) (fun z => ⟨by omega, by omega, by rw [z.1]; exact z.2⟩), fun z => ?_⟩⟩
      by_cases c : i = (j : Int)
      · exact .inr ⟨c, by rw [← c]; exact z.2.2⟩
      · exact .inl ⟨z.1, by omega, z.2.2⟩
end
end Rw

namespace Rw
open PySem PySem.Spec PyProof.Rows L2
/-! ### whether knots lie where they fit -/
def fits (ps : List Pi) (zs : List Pl) (k : Int × Int) : Prop := ∀ i a w, zs[k.1.toNat]? = some [i, a] → (a, w) ∈ (pr ps i).na → k.2 ≤ w
theorem one_width : ∀ {ks : List (Int × Int)}, (ks.map (·.1)).Pairwise (· < ·) → ∀ {a w w' : Int}, (a, w) ∈ ks → (a, w') ∈ ks → w = w'
  | [], _, _, _, _, m, _ => (nomatch m)
  | x :: ks, h, a, w, w', m, m' => by
    rw [List.map_cons, List.pairwise_cons] at h
    rcases List.mem_cons.mp m with e | m <;> rcases List.mem_cons.mp m' with e' | m'
    · rw [← e] at e'; cases e'; rfl
    · have := h.1 a (List.mem_map.mpr ⟨_, m', rfl⟩)
      rw [← e] at this; exact absurd this (Int.lt_irrefl _)
    · have := h.1 a (List.mem_map.mpr ⟨_, m, rfl⟩)
      rw [← e'] at this; exact absurd this (Int.lt_irrefl _)
    · exact one_width h.2 m m'
theorem wid_of {n : Int} {ps : List Pi} {zs : List Pl} {kvs : List (List Key × V)} (hk : HouseOk n ps) (wd : Wdt kvs (fun i a w => 0 ≤ i ∧ i < ps.length ∧ (a, w) ∈ (pr ps i).na)) {k : Int × Int} {z : Pl} (gz : zs[k.1.toNat]? = some z) (oz : okP n ps z) : ∃ w : Int, (valV kvs (keyOf z)).getD (.int k.2) = .int w ∧ (¬ w < k.2 ↔ fits ps zs k) := by
  rcases ok_cases oz with ⟨r, rfl, _, _⟩ | ⟨i, a, rfl, i0, i1, _, _⟩
  · exact ⟨k.2, by rw [wd.one r]; rfl, fun _ i a w e _ => (by rw [gz] at e; cases e), fun _ => Int.lt_irrefl _⟩
  · rcases wd.two i a with ⟨w, s, e⟩ | ⟨s, e⟩
    · refine ⟨w, by rw [e]; rfl, fun h i' a' w' e' m => ?_, fun h => ?_⟩
      · rw [gz] at e'; cases e'
        rw [one_width (hk.ok _ (pr_mem i0 i1).1).fit.nup m s.2.2]; omega
      · have := h i a w gz s.2.2
        omega
    · refine ⟨k.2, by rw [e]; rfl, fun _ i' a' w' e' m => ?_, fun _ => Int.lt_irrefl _⟩
      rw [gz] at e'; cases e'
      exact absurd ⟨i0, i1, m⟩ (s w')
section
variable {P : Program} {w : World} {K : PySem.W.Frag} {mg : Str → Option Value} {base : Heap}
abbrev sKLi : Stmt := topS 41
abbrev nKLi : List Str := ["_law_house_here", "_law_rope_here", "_law_row_here", "_law_widths_here", "_law_behind", "_law_size", "_law_tight"]
theorem scKLi : FnScope nKLi ["_law_house_here", "_law_rope_here", "_law_row_here"] (defScope sKLi) := ⟨rfl, rfl, rfl, by decide +kernel, rfl, by decide +kernel, by decide +kernel⟩
def spKLi : Sp := fun vs H Q _ => ∃ (h v : V) (Lr : Addr) (n l : Int) (ps : List Pi) (ks : List (Int × Int)) (us : List V) (zs : List Pl), vs = [h, v, .ref Lr] ∧ Dt [] H h (houseD n (ps.map Pi.dat)) ∧ HouseOk n ps ∧ Dt [] H v (ropeD l ks) ∧ okR l ks ∧ H Lr = some (.lst us) ∧ Dts [] H us (zs.map tupI) ∧ (zs.length : Int) = l + 1 ∧ (∀ z ∈ zs, okP n ps z) ∧
  ∀ (H' : Hp) (c : Bool), Keep [] H H' → (c = true ↔ ∀ k ∈ ks, fits ps zs k) → Q (.bl c) H'
theorem ok_kLi (h : Has K mg "_law_knots_lie" sKLi) (B : Blt mg) (CW : Can P w K mg base "_law_widths" ["_law_house_here"] 1 spWds) : Can P w K mg base "_law_knots_lie" ["_law_house_here", "_law_rope_here", "_law_row_here"] 2 spKLi := by
  obtain ⟨f, fd, F, g⟩ := h
  refine ⟨f, fd, F.ok (k := 1) scKLi (fun vs H Q E h => ?_) (fun cdv A outer s H vs Q E hr h => ?_), g, F.kp, F.binds fun _ _ _ _ _ _ us hl => match us, hl with | [_, _, _], _ => rfl⟩
  · obtain ⟨h, v, Lr, n, l, ps, ks, us, zs, rfl, _⟩ := h
    rfl
  · obtain ⟨h, v, Lr, n, l, ps, ks, us, zs, rfl, hh, hk, dr, okr, eLr, du, lz, okz, q⟩ := h
    refine ⟨_, pss_cons (ps_set (i := 3) scKLi.nd rfl (by first | exact Or.inl rfl | exact Or.inr rfl) (pe_can CW (hr.mono (by decide)) (by rfl) (pa_cons (pv 0) pa_nil)))
      (pss_cons (ps_setLc (i := 6) (own := [("_law_behind", 4), ("_law_size", 5)]) rfl scKLi.nd rfl rfl (sw_true rfl rfl rfl (by decide +kernel)) (pi_tup (pe_ix ix_tup (pv 1) pe_int (fun _ _ => rfl))) (blkOk_by (N := nKLi) (sc := defScope sKLi) (by decide +kernel)) (fun _ _ _ _ _ => (pg_tupK (K := K) (n := 2) rfl (by rfl) (pgs_cons (pg_name (i := 4) scKLi.nd rfl (by first | exact Or.inl rfl | exact Or.inr rfl)) (pgs_cons (pg_name (i := 5) scKLi.nd rfl (by first | exact Or.inl rfl | exact Or.inr rfl)) pgs_nil)))) (fun _ _ _ _ _ => pts_one (pt_cmpR op_lt (pe_dget2 (hu_of hr) (pv 3) (pe_ix (ix_listK (K := K) rfl) (pv 2) (pv 4) (fun _ _ => rfl)) (pv 5) ⟨by rfl, by rfl, by rfl, by rfl⟩) (pv 5) (nomark _))) (fun _ _ _ _ _ => (pv 4)))
      (pss_one (ps_ret (pe_cmpR (op_eqNilL hr.units0) (pv 6) (pe_lst pa_nil) (nomark _))))), ?_⟩
    obtain ⟨l0, l1, ris, siz, l4⟩ := okr
    obtain ⟨ra, ys, rfl, _, era, dra⟩ := tup_at (show Dt [] H v (.tuple [.int l, .tuple (ks.map prD)]) from dr)
    cases dra with
    | cons dl dra => cases dra with
      | cons dk dra =>
        cases dl
        cases dra
        obtain ⟨T, ku, rfl, _, eT, dku⟩ := tup_at dk
        have lku : ku.length = ks.length := by rw [dku.len, List.length_map]
        refine ⟨h, rfl, h, n, ps, rfl, hh, hk, fun G Fd kvs kG _ eF wd => ?_⟩
        refine ⟨.ref ra, rfl, ra, _, 1, .ref T, rfl, rfl, SqT.of (kG _ _ era List.not_mem_nil), atI_nat (j := 1) rfl, T, rfl, ⟨_, SqT.of (kG _ _ eT List.not_mem_nil)⟩, fun W nW => ?_⟩
        refine lc_tup (K := K) (a := T) (xs := ku) (fun t M => Keep [] G M ∧ ∃ bs : List Int, M W = some (.lst (bs.map V.int)) ∧ bs.length ≤ t ∧ (bs = [] ↔ ∀ k ∈ ks.take t, fits ps zs k))
          ⟨Keep.new nW, [], upd_same, Nat.le_refl _, ⟨fun _ k m => absurd m (by rw [List.take_zero]; exact List.not_mem_nil), fun _ => rfl⟩⟩ (fun t M _ z => SqT.of ((kG.trans z.1) _ _ eT List.not_mem_nil)) (fun t y M gy z => ?_) (fun M z => ?_)
        · obtain ⟨kM, bs, eW, lb, hb⟩ := z
          have kGM := kG.trans kM
          obtain ⟨dd, gd, dy⟩ := (dku.keep kGM).getv t gy
          rw [List.getElem?_map] at gd
          obtain ⟨k, gk, rfl⟩ := Option.map_eq_some_iff.mp gd
          obtain ⟨bb, ys, rfl, _, ebb, dbb⟩ := tup_at (show Dt [] M y (.tuple [.int k.1, .int k.2]) from dy)
          have hys : ys = [.int k.1, .int k.2] := Dts.unints (ns := [k.1, k.2]) dbb
          subst hys
          have ht := (List.getElem?_eq_some_iff.mp gk).1
          have kr := rising_in ris k (List.mem_of_getElem? gk)
          obtain ⟨z, gz⟩ : ∃ z, zs[k.1.toNat]? = some z := ⟨_, List.getElem?_eq_getElem (by omega)⟩
          obtain ⟨u, gu, dz⟩ := (du.keep kGM).get k.1.toNat (d := tupI z) (by rw [List.getElem?_map, gz]; rfl)
          obtain ⟨tz, rfl, _, etz⟩ := tupI_at dz
          obtain ⟨w, ew, iw⟩ := wid_of hk wd gz (okz z (List.mem_of_getElem? gz))
          have tk : ∀ x, x ∈ ks.take (t + 1) ↔ x ∈ ks.take t ∨ x = k := fun x => by
            rw [List.take_add_one, gk, List.mem_append]
            exact or_congr_right (by simp)
          refine ⟨bb, _, rfl, SqT.of ebb, rfl, _, _, rfl, _, [], rfl, rfl, rfl, .ref Fd, rfl, Fd, rfl, .inr ⟨kvs, .inl (kM _ _ eF List.not_mem_nil)⟩, .ref Lr, rfl, .int k.1, rfl, Lr, _, k.1, .ref tz, rfl, rfl, SqL.of (kGM _ _ eLr List.not_mem_nil), atI_of kr.1 gu, .int k.2, rfl, _, DGet.t (k := keyOf z) (kM _ _ eF List.not_mem_nil) (by rw [keyOf_kV]; exact etz), .int k.2, rfl, w, k.2, ew, rfl, _, rfl, ite2 (fun c => ?_) (fun c => ?_)⟩
          · have c' : w < k.2 := of_decide_eq_true c
            refine ⟨.int k.1, rfl, _, eW, by rw [List.length_map]; exact Nat.lt_of_le_of_lt (show bs.length ≤ 4 by omega) (by decide), kM.upd nW, bs ++ [k.1], by rw [upd_same, List.map_append]; rfl, by rw [List.length_append]; show bs.length + 1 ≤ _; omega, fun z => absurd z (by simp), fun z => absurd c' (iw.mpr (z k ((tk k).mpr (.inr rfl))))⟩
          · have c' : ¬ w < k.2 := fun z => c (decide_eq_true z)
            refine ⟨kM, bs, eW, by omega, hb.trans ⟨fun z x m => ((tk x).mp m).elim (z x) (fun e => by rw [e]; exact iw.mp c'), fun z x m => z x ((tk x).mpr (.inl m))⟩⟩
        · obtain ⟨kM, bs, eW, lb, hb⟩ := z
          rw [lku, List.take_length] at hb
          refine ⟨.ref W, rfl, show 0 ≤ sizeLine by decide, fun L nL => ⟨W, L, _, rfl, rfl, SqL.of (Keep.new (av := []) nL _ _ eW List.not_mem_nil), SqL.of upd_same, ?_⟩⟩
          refine q _ _ ((kG.trans kM).trans (Keep.new nL)) (Iff.trans ?_ hb)
          cases bs with
          | nil => exact ⟨fun _ => rfl, fun _ => rfl⟩
          | cons x xs => exact ⟨fun z => (by cases z), fun z => (by cases z)⟩
end
end Rw

namespace Rw
open PySem PySem.Spec PyProof.Rows L2
section
variable {P : Program} {w : World} {K : PySem.W.Frag} {mg : Str → Option Value} {base : Heap}
abbrev sHsm : Stmt := topS 34
abbrev nHsm : List Str := ["_law_stream_here", "_law_most", "_law_farthest", "_law_flaps", "_law_rooms", "_law_pipes", "_law_left", "_law_room", "_law_length", "_law_at", "_law_narrow", "_law_hung", "_law_pipe"]
theorem scHsm : FnScope nHsm ["_law_stream_here", "_law_most", "_law_farthest", "_law_flaps"] (defScope sHsm) := ⟨rfl, rfl, rfl, by decide +kernel, rfl, by decide +kernel, by decide +kernel⟩
def spHsm : Sp := fun vs H Q _ => ∃ (D C : Addr) (b most fa fm : Int) (av : List Addr), vs = [.ref D, .int most, .int fa, .int fm] ∧ 2 ≤ most ∧ most ≤ 5 ∧ 1 ≤ fa ∧ fa ≤ 4 ∧ 0 ≤ fm ∧ fm ≤ 6 ∧ Dq H D C b ∧ 0 ≤ b ∧ b ≤ 90000 ∧ Tr av H ∧ D ∈ av ∧
  ∀ H' (r : Addr) n ps, Keep [D] H H' → Dq H' D C (b + 100) → Dt av H' (.ref r) (houseD n (ps.map Pi.dat)) → okH n ps → (∀ p ∈ ps, p.l ≤ 4) → 2 ≤ n → n ≤ 5 → Q (.ref r) H'
theorem ok_hsm (h : Has K mg "_law_house" sHsm) (B : Blt mg) (CT : Can P w K mg base "_law_take" ["_law_stream_here", "_law_below"] 1 spTk) : Can P w K mg base "_law_house" ["_law_stream_here", "_law_most", "_law_farthest", "_law_flaps"] 2 spHsm := by
  obtain ⟨f, fd, F, g⟩ := h
  refine ⟨f, fd, F.ok (k := 1) scHsm (fun vs H Q E h => ?_) (fun cdv A outer s H vs Q E hr h => ?_), g, F.kp, F.binds fun _ _ _ _ _ _ us hl => match us, hl with | [_, _, _, _], _ => rfl⟩
  · obtain ⟨D, C, b, most, fa, fm, av, rfl, _⟩ := h
    rfl
  · obtain ⟨D, C, b, most, fa, fm, av, rfl, m2, m5, f1, f4, fm0, fm3, dk, b0, hb, tr, mD, q⟩ := h
    refine ⟨_, pss_cons (ps_set (i := 4) scHsm.nd rfl (by first | exact Or.inl rfl | exact Or.inr rfl) (pe_op op_add pe_int (pe_can CT (hr.mono (by decide)) (by rfl) (pa_cons (pv 0) (pa_cons (pe_op op_sub (pv 1) pe_int) pa_nil)))))
      (pss_cons (ps_set (i := 5) scHsm.nd rfl (by first | exact Or.inl rfl | exact Or.inr rfl) (pe_lst pa_nil))
      (pss_cons (ps_set (i := 6) scHsm.nd rfl (by first | exact Or.inl rfl | exact Or.inr rfl) (pv 3))
      (pss_cons (ps_for PassesOwn.never rfl (pi_range2 (by rfl) B.range_ (pa_cons pe_int (pa_cons (pv 4) pa_nil))) (pg_name (i := 7) scHsm.nd rfl (by first | exact Or.inl rfl | exact Or.inr rfl))
      (pss_cons (ps_set (i := 8) scHsm.nd rfl (by first | exact Or.inl rfl | exact Or.inr rfl) (pe_op op_add pe_int (pe_can CT (hr.mono (by decide)) (by rfl) (pa_cons (pv 0) (pa_cons (pv 2) pa_nil)))))
      (pss_cons (ps_setLc (i := 10) (own := [("_law_at", 9)]) (g := gName 9) rfl scHsm.nd rfl rfl (sw_true rfl rfl rfl (by decide +kernel)) (pi_range2 (by rfl) B.range_ (pa_cons pe_int (pa_cons (pv 8) pa_nil))) (blkOk_by (N := nHsm) (sc := defScope sHsm) (by decide +kernel)) (fun _ _ _ _ _ => (pg_name (i := 9) scHsm.nd rfl (by first | exact Or.inl rfl | exact Or.inr rfl))) (fun _ _ _ _ _ => pts_one (pt_cmpR op_eq (pe_can CT (hr.mono (by decide)) (by rfl) (pa_cons (pv 0) (pa_cons pe_int pa_nil))) pe_int (nomark _))) (fun _ _ _ _ _ => (pe_tup (pa_cons (pv 9) (pa_cons (pe_op op_add pe_int (pe_can CT (hr.mono (by decide)) (by rfl) (pa_cons (pv 0) (pa_cons pe_int pa_nil)))) pa_nil)))))
      (pss_cons (ps_set (i := 11) scHsm.nd rfl (by first | exact Or.inl rfl | exact Or.inr rfl) (pe_slice sl_list (pe_lc (own := [("_law_at", 9)]) (g := gName 9) rfl scHsm.nd (pi_range1 (by rfl) B.range_ (pa_cons (pv 8) pa_nil)) (blkOk_by (N := nHsm) (sc := defScope sHsm) (by decide +kernel)) (fun _ _ _ _ _ => (pg_name (i := 9) scHsm.nd rfl (by first | exact Or.inl rfl | exact Or.inr rfl))) (fun _ _ _ _ _ => pts_one (pt_cmpR op_eq (pe_can CT (hr.mono (by decide)) (by rfl) (pa_cons (pv 0) (pa_cons pe_int pa_nil))) pe_int (nomark _))) (fun _ _ _ _ _ => (pe_tup (pa_cons (pv 9) (pa_cons (pe_ix (ix_listK (K := K) rfl) (pe_lst (pa_cons pe_int (pa_cons (pe_un un_neg pe_int) pa_nil))) (pe_can CT (hr.mono (by decide)) (by rfl) (pa_cons (pv 0) (pa_cons pe_int pa_nil))) (fun _ _ => rfl)) pa_nil))))) po_none (po_some (pv 6))))
      (pss_cons (ps_set (i := 6) scHsm.nd rfl (by first | exact Or.inl rfl | exact Or.inr rfl) (pe_op op_sub (pv 6) (pe_callB call_len_seq (by rfl) B.len_ PySem.boot_len (pa_cons (pv 11) pa_nil))))
      (pss_cons (ps_set (i := 12) scHsm.nd rfl (by first | exact Or.inl rfl | exact Or.inr rfl) (pe_tup (pa_cons (pe_can CT (hr.mono (by decide)) (by rfl) (pa_cons (pv 0) (pa_cons (pv 7) pa_nil))) (pa_cons (pv 7) (pa_cons (pv 8) (pa_cons (pe_callTy call_tuple_of (by rfl) B.tuple_ boot_tuple (pa_cons (pe_slice sl_list (pv 10) po_none (po_some pe_int)) pa_nil)) (pa_cons (pe_callTy call_tuple_of (by rfl) B.tuple_ boot_tuple (pa_cons (pv 11) pa_nil)) pa_nil)))))))
      (pss_one (ps_expr (pe_bm PySem.F.plainAttrs_list PySem.F.slot_list_insert PySem.F.type_list_insert mt_insert (pv 5) (pa_cons (pe_can CT (hr.mono (by decide)) (by rfl) (pa_cons (pv 0) (pa_cons (pe_op op_add (pe_callB call_len_seq (by rfl) B.len_ PySem.boot_len (pa_cons (pv 5) pa_nil)) pe_int) pa_nil))) (pa_cons (pv 12) pa_nil)))))))))))
      (pss_one (ps_ret (pe_tup (pa_cons (pv 4) (pa_cons (pe_callTy call_tuple_of (by rfl) B.tuple_ boot_tuple (pa_cons (pv 5) pa_nil)) pa_nil)))))))), ?_⟩
    refine ⟨.ref D, rfl, .int most, rfl, most, 1, rfl, rfl, D, C, b, most - 1, rfl, by omega, by omega, dk, by omega, fun H1 t k1 d1 t0 t1 => ?_⟩
    refine ⟨2, t, rfl, rfl, ?_⟩
    have hn1 : 2 ≤ 2 + t := by omega
    have hn2 : 2 + t ≤ 5 := by omega
    dsimp only
    generalize 2 + t = n at hn1 hn2 ⊢
    refine ⟨show 0 ≤ sizeLine by decide, fun Pp nP => ?_⟩
    have zP := d1.nes nP
    have d2 := d1.new (o := .lst []) nP
    have kk : Keep [D] H (upd H1 Pp (.lst [])) := k1.trans (Keep.new nP)
    have eP : (upd H1 Pp (.lst [])) Pp = some (.lst []) := upd_same
    have fP : H Pp = none := d1.free k1 nP
    generalize upd H1 Pp (.lst []) = H2 at d2 kk eP ⊢
    have mP : D ∈ Pp :: av := List.mem_cons_of_mem _ mD
    refine ⟨.int fm, rfl, .int n, rfl, 1, n, rfl, ⟨by decide, by decide, by omega, by omega⟩, for_range (lo := 1) (n := (n - 1).toNat)
      (fun i σ G => ∃ (s7 s8 s9 s10 s11 s12 : Option V) (lf : Int) (us : List V) (ps : List Pi), σ = [some (.ref D), some (.int most), some (.int fa), some (.int fm), some (.int n), some (.ref Pp), some (.int lf), s7, s8, s9, s10, s11, s12] ∧ Keep [D] H G ∧ Dq G D C (b + 1 + 20 * i) ∧ 0 ≤ lf ∧ lf + ((ps.map fun p => p.fl.length).sum : Nat) = fm ∧ (ps.map fun p => p.na.length).sum ≤ 3 * i ∧ us.length = i ∧ ps.length = i ∧ G Pp = some (.lst us) ∧ Dts (Pp :: av) G us (ps.map Pi.dat) ∧ (∀ p ∈ ps, p.ok n ∧ p.l ≤ 4) ∧ (∀ r : Int, 1 ≤ r → r < 1 + i → ∃ p ∈ ps, p.y = r ∧ 0 ≤ p.x ∧ p.x < r))
      ⟨none, none, none, none, none, none, fm, [], [], rfl, kk, d2.mono (by omega), fm0, by show fm + 0 = fm; omega, Nat.le_refl _, rfl, rfl, eP, .nil, fun _ z => absurd z List.not_mem_nil, fun r r1 r2 => absurd r2 (by omega)⟩ (fun i σ G hi z => ?_) (fun σ G z => ?_)⟩
    rotate_left
    · obtain ⟨s7, s8, s9, s10, s11, s12, lf, us, ps, rfl, kG, dG, lf0, sf, sn, lu, lp, eP, du, okp, cov⟩ := z
      have tG : Tr av G := tr.kp kG dG.tr
      have du0 : Dts av G us (ps.map Pi.dat) := du.less fun a m => List.mem_cons_of_mem _ m
      refine ⟨.int n, rfl, .ref Pp, rfl, Pp, us, rfl, .inl ⟨SqL.of eP, fun T nT => ?_⟩⟩
      refine ⟨show 2 ≤ sizeLine by decide, fun R nR => ?_⟩
      have dT : Dt av (upd G T (.tup us)) (.ref T) (.tuple (ps.map Pi.dat)) := .tup (tG.not nT) upd_same (du0.keep (Keep.new nT))
      exact q _ R n ps (kG.trans ((Keep.new nT).trans (Keep.new nR))) (((dG.new nT).new nR).mono (by omega)) (.tup (tG.upd.not nR) upd_same (.cons (.int _) (.cons (dT.keep (Keep.new nR)) .nil))) ⟨by omega, by omega, by omega, fun p m => (okp p m).1, con_of fun r r1 r2 => cov r r1 (by omega), by omega, by omega⟩ (fun p m => (okp p m).2) hn1 hn2
    obtain ⟨s7, s8, s9, s10, s11, s12, lf, us, ps, rfl, kG, dG, lf0, sf, sn, lu, lp, eP, du, okp, cov⟩ := z
    refine ⟨.ref D, rfl, .int fa, rfl, D, C, _, fa, rfl, by omega, by omega, dG, by omega, fun G1 x k1 d1 x0 x1 => ⟨1, x, rfl, rfl, ?_⟩⟩
    have hl1 : 1 ≤ 1 + x := by omega
    have hl4 : 1 + x ≤ 4 := by omega
    dsimp only
    generalize 1 + x = l at hl1 hl4 ⊢
    have tP : ∀ {Z : Hp} {bb : Int}, Keep [D] G Z → Dq Z D C bb → Tr (Pp :: av) Z := fun {Z bb} kz dz => Tr.cons ((tr.kp kG dG.tr).kp kz dz.tr) (kz Pp _ eP (not1 zP.1))
    refine ⟨.int l, rfl, 1, l, rfl, ⟨by decide, by decide, by omega, by omega⟩, fun W nW => ?_⟩
    have hW := d1.nes nW
    refine lc_range (lo := 1) (n := (l - 1).toNat) (fun u M => Keep [D] G1 M ∧ Dq M D C (b + 1 + 20 * i + 1 + 2 * u) ∧ ∃ (vs : List V) (ks : List (Int × Int)), M W = some (.lst vs) ∧ vs.length = ks.length ∧ ks.length ≤ u ∧ Dts (W :: Pp :: av) M vs (ks.map prD) ∧ (ks.map (·.1)).Pairwise (· < ·) ∧ ∀ k ∈ ks, 1 ≤ k.1 ∧ k.1 < 1 + u ∧ 1 ≤ k.2 ∧ k.2 ≤ 1000000)
      ⟨Keep.new nW, (d1.new nW).mono (by omega), [], [], upd_same, rfl, Nat.le_refl _, .nil, List.Pairwise.nil, fun _ z => absurd z List.not_mem_nil⟩ (fun u M hu z => ?_) (fun M z => ?_)
    · obtain ⟨kM, dM, vs, ks, eW, lv, lk, dv, pw, hks⟩ := z
      refine ⟨rfl, .ref D, rfl, D, C, _, 4, rfl, by decide, by decide, dM, by omega, fun M2 c kM2 dM2 c0 c1 => ⟨rfl, _, rfl, ite2 (fun _ => ?_) (fun _ => ?_)⟩⟩
      · refine ⟨.int (1 + (u : Int)), rfl, .ref D, rfl, D, C, _, 3, rfl, by decide, by decide, dM2, by omega, fun M3 g kM3 dM3 g0 g1 => ⟨1, g, rfl, rfl, show 2 ≤ sizeLine by decide, fun T nT => ?_⟩⟩
        have kM23 := kM2.trans kM3
        have eW3 := kM23 W _ eW (not1 hW.1)
        have tZ : Tr (W :: Pp :: av) M3 := Tr.cons (tP (k1.trans (kM.trans kM23)) dM3) eW3
        have kq : Keep [D] M (upd M3 T (.tup [.int (1 + (u : Int)), .int (1 + g)])) := kM23.trans (Keep.new nT)
        have dT : Dt (W :: Pp :: av) (upd M3 T (.tup [.int (1 + (u : Int)), .int (1 + g)])) (.ref T) (prD (1 + (u : Int), 1 + g)) := .tup (tZ.not nT) upd_same (.cons (.int _) (.cons (.int _) .nil))
        have d7 := dM3.new (o := .tup [.int (1 + (u : Int)), .int (1 + g)]) nT
        refine ⟨vs, st nT eW3, Nat.lt_of_le_of_lt (show vs.length ≤ 4 by omega) (by decide), (kM.trans kq).upd nW, (d7.other hW.1 hW.2).mono (by omega), vs ++ [.ref T], ks ++ [(1 + (u : Int), 1 + g)], upd_same, by rw [List.length_append, List.length_append, lv]; rfl, by rw [List.length_append]; show ks.length + 1 ≤ _; omega, ?_, ?_, fun k m => ?_⟩
        · rw [List.map_append]
          exact lst_step dv (kq.mono fun z m => by rw [List.mem_singleton.mp m]; exact List.mem_cons_of_mem _ mP) dT
        · rw [List.map_append]
          exact List.pairwise_append.mpr ⟨pw, List.pairwise_singleton _ _, fun a ma c mc => by
            obtain ⟨k, mk, rfl⟩ := List.mem_map.mp ma
            rw [List.mem_singleton.mp mc]; exact (hks k mk).2.1⟩
        · rcases List.mem_append.mp m with m | m
          · have z := hks k m
            exact ⟨z.1, by omega, z.2.2⟩
          · rw [List.mem_singleton.mp m]; exact ⟨by show 1 ≤ 1 + (u : Int); omega, by show 1 + (u : Int) < _; omega, by show 1 ≤ 1 + g; omega, by show 1 + g ≤ _; omega⟩
      · exact ⟨kM.trans kM2, dM2.mono (by omega), vs, ks, kM2 W _ eW (not1 hW.1), lv, by omega, dv.keep (kM2.mono fun z m => by rw [List.mem_singleton.mp m]; exact List.mem_cons_of_mem _ mP), pw, fun k m => ⟨(hks k m).1, by have := (hks k m).2.1; omega, (hks k m).2.2⟩⟩
    obtain ⟨kM, dM, vn, kn, eW, lvn, lkn, dvn, pwn, hkn⟩ := z
    have dvn' : Dts (Pp :: av) M vn (kn.map prD) := dvn.less fun a m => List.mem_cons_of_mem _ m
    have kGM := k1.trans kM
    have dM1 := dM.mono (by omega : _ ≤ b + 1 + 20 * (i : Int) + 7)
    refine ⟨.int l, rfl, l, rfl, by omega, by omega, fun W2 nW2 => ?_⟩
    have hW2 := dM1.nes nW2
    refine lc_range (lo := 0) (n := l.toNat) (fun u X => Keep [D] M X ∧ Dq X D C (b + 1 + 20 * i + 7 + 2 * u) ∧ ∃ (vs : List V) (ks : List (Int × Int)), X W2 = some (.lst vs) ∧ vs.length = ks.length ∧ ks.length ≤ u ∧ Dts (W2 :: Pp :: av) X vs (ks.map prD) ∧ (ks.map (·.1)).Pairwise (· < ·) ∧ ∀ k ∈ ks, 0 ≤ k.1 ∧ k.1 < u ∧ (k.2 = 1 ∨ k.2 = -1))
      ⟨Keep.new nW2, (dM1.new nW2).mono (by omega), [], [], upd_same, rfl, Nat.le_refl _, .nil, List.Pairwise.nil, fun _ z => absurd z List.not_mem_nil⟩ (fun u X hu z => ?_) (fun X z => ?_)
    · obtain ⟨kX, dX, vs, ks, eW2, lv, lk, dv, pw, hks⟩ := z
      refine ⟨rfl, .ref D, rfl, D, C, _, 4, rfl, by decide, by decide, dX, by omega, fun X2 c kX2 dX2 c0 c1 => ⟨rfl, _, rfl, ite2 (fun _ => ?_) (fun _ => ?_)⟩⟩
      · refine ⟨.int (0 + (u : Int)), rfl, 1, rfl, show 2 ≤ sizeLine by decide, fun Ls nLs => ?_⟩
        refine ⟨.ref D, rfl, D, C, _, 2, rfl, by decide, by decide, dX2.new nLs, by omega, fun X3 g kg dg g0 g1 => ?_⟩
        have eM := kg Ls _ upd_same (not1 (dX2.nes nLs).1)
        obtain ⟨ww, mw, gw⟩ := pick_at (xs := [1, -1]) g0 g1
        have hw : ww = 1 ∨ ww = -1 := by
          rcases List.mem_cons.mp mw with rfl | mw
          · exact .inl rfl
          · exact .inr (List.mem_singleton.mp mw)
        refine ⟨Ls, _, g, .int ww, rfl, rfl, SqL.of eM, gw, show 2 ≤ sizeLine by decide, fun T nT => ?_⟩
        rw [show (0 + (u : Int)) = (u : Int) by omega]
        have kh : Keep [D] X X3 := kX2.trans ((Keep.new nLs).trans kg)
        have eW3 := kh W2 _ eW2 (not1 hW2.1)
        have tZ : Tr (W2 :: Pp :: av) X3 := Tr.cons (tP (kGM.trans (kX.trans kh)) dg) eW3
        have kq : Keep [D] X (upd X3 T (.tup [.int (u : Int), .int ww])) := kh.trans (Keep.new nT)
        have dT : Dt (W2 :: Pp :: av) (upd X3 T (.tup [.int (u : Int), .int ww])) (.ref T) (prD ((u : Int), ww)) := .tup (tZ.not nT) upd_same (.cons (.int _) (.cons (.int _) .nil))
        have d7 := dg.new (o := .tup [.int (u : Int), .int ww]) nT
        refine ⟨vs, st nT eW3, Nat.lt_of_le_of_lt (show vs.length ≤ 4 by omega) (by decide), (kX.trans kq).upd nW2, (d7.other hW2.1 hW2.2).mono (by omega), vs ++ [.ref T], ks ++ [((u : Int), ww)], upd_same, by rw [List.length_append, List.length_append, lv]; rfl, by rw [List.length_append]; show ks.length + 1 ≤ _; omega, ?_, ?_, fun k m => ?_⟩
        · rw [List.map_append]
          exact lst_step dv (kq.mono fun z m => by rw [List.mem_singleton.mp m]; exact List.mem_cons_of_mem _ mP) dT
        · rw [List.map_append]
          exact List.pairwise_append.mpr ⟨pw, List.pairwise_singleton _ _, fun a ma c mc => by
            obtain ⟨k, mk, rfl⟩ := List.mem_map.mp ma
            rw [List.mem_singleton.mp mc]; exact (hks k mk).2.1⟩
        · rcases List.mem_append.mp m with m | m
          · have z := hks k m
            exact ⟨z.1, by omega, z.2.2⟩
          · rw [List.mem_singleton.mp m]; exact ⟨by show 0 ≤ (u : Int); omega, by show (u : Int) < _; omega, hw⟩
      · exact ⟨kX.trans kX2, dX2.mono (by omega), vs, ks, kX2 W2 _ eW2 (not1 hW2.1), lv, by omega, dv.keep (kX2.mono fun z m => by rw [List.mem_singleton.mp m]; exact List.mem_cons_of_mem _ mP), pw, fun k m => ⟨(hks k m).1, by have := (hks k m).2.1; omega, (hks k m).2.2⟩⟩
    obtain ⟨kX, dX, vh, kh, eW2, lvh, lkh, dvh, pwh, hkh⟩ := z
    dsimp only [tNoPart, tPart]
    refine ⟨.int lf, rfl, lf, rfl, W2, _, rfl, SqL.of eW2, fun N nN => ?_⟩
    have ec : cutV vh none (some lf) = vh.take lf.toNat := by rw [show (some lf) = some ((lf.toNat : Nat) : Int) by rw [show ((lf.toNat : Nat) : Int) = lf by omega], cut_to]
    rw [ec]
    have dvh' : Dts (Pp :: av) X (vh.take lf.toNat) ((kh.take lf.toNat).map prD) := by
      rw [List.map_take]; exact (dvh.less fun a m => List.mem_cons_of_mem _ m).take _
    have pwh' : ((kh.take lf.toNat).map (·.1)).Pairwise (· < ·) := by rw [List.map_take]; exact pwh.sublist (List.take_sublist _ _)
    have hkh' : ∀ k ∈ kh.take lf.toNat, 0 ≤ k.1 ∧ k.1 ≤ l - 1 ∧ (k.2 = 1 ∨ k.2 = -1) := fun k m => by
      have z := hkh k (List.mem_of_mem_take m)
      exact ⟨z.1, by omega, z.2.2⟩
    have lh : (vh.take lf.toNat).length = (kh.take lf.toNat).length ∧ (kh.take lf.toNat).length ≤ lf.toNat ∧ (kh.take lf.toNat).length ≤ 4 := by
      rw [List.length_take, List.length_take, lvh]; exact ⟨rfl, by omega, by omega⟩
    generalize vh.take lf.toNat = vs at dvh' lh ⊢
    generalize kh.take lf.toNat = ks at dvh' lh pwh' hkh'
    have dX1 := dX.mono (by omega : _ ≤ b + 1 + 20 * (i : Int) + 15)
    have zN := dX1.nes nN
    have kN : Keep [D] M (upd X N (.lst vs)) := kX.trans (Keep.new nN)
    have eN : (upd X N (.lst vs)) N = some (.lst vs) := upd_same
    have dN := dX1.new (o := .lst vs) nN
    have dHz : Dts (Pp :: av) (upd X N (.lst vs)) vs (ks.map prD) := dvh'.keep (Keep.new nN)
    generalize upd X N (.lst vs) = Z at kN eN dN dHz ⊢
    have eWz := kN W _ eW (not1 hW.1)
    have kGZ := kGM.trans kN
    have ePz := kGZ Pp _ eP (not1 zP.1)
    have dNz : Dts (Pp :: av) Z vn (kn.map prD) := dvn'.keep (kN.mono (one_in mP))
    have duz := du.keep (kGZ.mono (one_in mP))
    refine ⟨.int lf, rfl, .ref N, rfl, N, vs, rfl, .inl (SqL.of eN), lf, _, rfl, rfl, ?_⟩
    refine ⟨.ref D, rfl, .int (1 + (i : Int)), rfl, D, C, _, 1 + (i : Int), rfl, by omega, by omega, dN, by omega, fun Y1 x' kz1 d12 x0' x1' => ?_⟩
    have eW1 := kz1 W _ eWz (not1 hW.1)
    have eN1 := kz1 N _ eN (not1 zN.1)
    refine ⟨.int (1 + (i : Int)), rfl, .int l, rfl, .ref W, rfl, ?_⟩
    dsimp only [tNoPart, tPart]
    refine ⟨3, rfl, W, _, rfl, SqL.of eW1, fun N3 nN3 => ?_⟩
    have ec3 : cutV vn none (some 3) = vn := by
      rw [show (some (3 : Int)) = some ((3 : Nat) : Int) from rfl, cut_to]
      exact List.take_of_length_le (by omega)
    rw [ec3]
    have t1 : Tr (Pp :: av) Y1 := tP (kGZ.trans kz1) d12
    have k3 := Keep.new (av := []) (o := .lst vn) nN3
    have d3 := d12.new (o := .lst vn) nN3
    have e3 : (upd Y1 N3 (.lst vn)) N3 = some (.lst vn) := upd_same
    have t3 : Tr (Pp :: av) (upd Y1 N3 (.lst vn)) := t1.upd
    have eN3 := k3 _ _ eN1 List.not_mem_nil
    have kz3 : Keep [D] Z (upd Y1 N3 (.lst vn)) := kz1.trans k3.of
    generalize upd Y1 N3 (.lst vn) = Y2 at d3 e3 t3 eN3 kz3 ⊢
    refine ⟨N3, vn, rfl, .inl ⟨SqL.of e3, fun T1 nT1 => ?_⟩⟩
    refine ⟨.ref N, rfl, N, vs, rfl, .inl ⟨SqL.of (st nT1 eN3), fun T2 nT2 => ?_⟩⟩
    refine ⟨show 5 ≤ sizeLine by decide, fun R nR => ?_⟩
    have kv1 : Keep (Pp :: av) Z Y2 := kz3.mono (one_in mP)
    have dT1 : Dt (Pp :: av) (upd Y2 T1 (.tup vn)) (.ref T1) (.tuple (kn.map prD)) := .tup (t3.not nT1) upd_same (dNz.keep (kv1.trans (Keep.new nT1)))
    have dT2 : Dt (Pp :: av) (upd (upd Y2 T1 (.tup vn)) T2 (.tup vs)) (.ref T2) (.tuple (ks.map prD)) := .tup (t3.upd.not nT2) upd_same (dHz.keep (kv1.trans ((Keep.new nT1).trans (Keep.new nT2))))
    have dR : Dt (Pp :: av) (upd (upd (upd Y2 T1 (.tup vn)) T2 (.tup vs)) R (.tup [.int x', .int (1 + (i : Int)), .int l, .ref T1, .ref T2])) (.ref R) (Pi.dat ⟨x', 1 + (i : Int), l, kn, ks⟩) := .tup (t3.upd.upd.not nR) upd_same (.cons (.int _) (.cons (.int _) (.cons (.int _) (.cons (dT1.keep ((Keep.new nT2).trans (Keep.new nR))) (.cons (dT2.keep (Keep.new nR)) .nil)))))
    have kAll : Keep [D] Z (upd (upd (upd Y2 T1 (.tup vn)) T2 (.tup vs)) R (.tup [.int x', .int (1 + (i : Int)), .int l, .ref T1, .ref T2])) := kz3.trans ((Keep.new nT1).trans ((Keep.new nT2).trans (Keep.new nR)))
    have d13 := ((d3.new (o := .tup vn) nT1).new (o := .tup vs) nT2).new (o := .tup [.int x', .int (1 + (i : Int)), .int l, .ref T1, .ref T2]) nR
    generalize upd (upd (upd Y2 T1 (.tup vn)) T2 (.tup vs)) R (.tup [.int x', .int (1 + (i : Int)), .int l, .ref T1, .ref T2]) = Y3 at dR kAll d13 ⊢
    have eP2 := kAll Pp _ ePz (not1 zP.1)
    refine ⟨.ref Pp, rfl, .inl ⟨rfl, _, SqL.of eP2⟩, .ref D, rfl, .ref Pp, rfl, Pp, us, rfl, .inl (SqL.of eP2), _, 1, rfl, rfl, D, C, _, _, rfl, by omega, by omega, d13, by omega, fun Y4 k kk3 d14 k0 k1' => ?_⟩
    have eP3 := kk3 Pp _ eP2 (not1 zP.1)
    refine ⟨.ref R, rfl, Pp, us, k, .ref R, rfl, rfl, eP3, by rw [lu]; exact small1000 (by omega), k0, by omega, ?_⟩
    have kfin : Keep [D] Z Y4 := kAll.trans kk3
    have okq : Pi.ok n ⟨x', 1 + (i : Int), l, kn, ks⟩ := ⟨x0', by show x' ≤ n - 1; omega, by show 0 ≤ 1 + (i : Int); omega, by show 1 + (i : Int) ≤ n - 1; omega, x1', ⟨hl1, by show l ≤ _; omega, pwn, fun k m => ⟨(hkn k m).1, by have := (hkn k m).2.1; show k.1 ≤ l - 1; omega, (hkn k m).2.2⟩, pwh', hkh', by show kn.length ≤ 3; omega, by show ks.length ≤ 4; omega⟩⟩
    have s1' : ((ps.take k.toNat ++ [(⟨x', 1 + (i : Int), l, kn, ks⟩ : Pi)] ++ ps.drop k.toNat).map fun p => p.na.length).sum = (ps.map fun p => p.na.length).sum + kn.length := sum_ins (fun p => p.na.length) ps ⟨x', 1 + (i : Int), l, kn, ks⟩ k.toNat
    have s2' : ((ps.take k.toNat ++ [(⟨x', 1 + (i : Int), l, kn, ks⟩ : Pi)] ++ ps.drop k.toNat).map fun p => p.fl.length).sum = (ps.map fun p => p.fl.length).sum + ks.length := sum_ins (fun p => p.fl.length) ps ⟨x', 1 + (i : Int), l, kn, ks⟩ k.toNat
    refine ⟨_, _, _, _, _, _, lf - (vs.length : Int), us.take k.toNat ++ [.ref R] ++ us.drop k.toNat, ps.take k.toNat ++ [⟨x', 1 + (i : Int), l, kn, ks⟩] ++ ps.drop k.toNat, rfl, ?_, ?_, by omega, by omega, by omega, ?_, ?_, upd_same, ?_, ?_, ?_⟩
    · exact (kG.trans (kGZ.trans kfin)).upd fP
    · exact (d14.other zP.1 zP.2).mono (by omega)
    · rw [List.length_append, List.length_append, List.length_take, List.length_drop, List.length_singleton]; omega
    · rw [List.length_append, List.length_append, List.length_take, List.length_drop, List.length_singleton]; omega
    · rw [List.map_append, List.map_append, List.map_take, List.map_drop]
      have du3 : Dts (Pp :: av) Y4 us (ps.map Pi.dat) := duz.keep (kfin.mono (one_in mP))
      exact (((du3.take _).app (.cons (dR.keep (kk3.mono (one_in mP))) .nil)).app (du3.drop _)).keep (Keep.put List.mem_cons_self)
    · intro z mz
      rcases ins_mem.mp mz with rfl | mz
      · exact ⟨okq, hl4⟩
      · exact okp z mz
    · intro r r1 r2
      by_cases e : r = 1 + (i : Int)
      · exact ⟨_, ins_mem.mpr (.inl rfl), e.symm, x0', by rw [e]; exact x1'⟩
      · obtain ⟨z, mz, h1, h2, h3⟩ := cov r r1 (by omega)
        exact ⟨z, ins_mem.mpr (.inr mz), h1, h2, h3⟩
end
end Rw

namespace Rw
/-! ### there are few places in a small house -/
theorem nodup_in {α : Type} [DecidableEq α] : ∀ {l m : List α}, l.Nodup → (∀ x ∈ l, x ∈ m) → l.length ≤ m.length
  | [], _, _, _ => Nat.zero_le _
  | a :: l, m, nd, h => by
    have am := h a List.mem_cons_self
    have nd' := List.nodup_cons.mp nd
    have ih := nodup_in (l := l) (m := m.erase a) nd'.2 fun x hx => (List.mem_erase_of_ne (fun e => nd'.1 (by rw [← e]; exact hx))).mpr (h x (List.mem_cons_of_mem _ hx))
    have le := List.length_erase_of_mem am
    have pos := List.length_pos_of_mem am
    rw [List.length_cons]; omega
theorem pls_upto {n : Int} {ps : List Pi} (hk : HouseOk n ps) (short : ∀ p ∈ ps, p.l ≤ 10) : ∀ j : Nat, j ≤ ps.length → (plsL n ps j).length ≤ 16 + 9 * j
  | 0, _ => by
    unfold plsL
    rw [List.range_zero, List.flatMap_nil, List.append_nil, List.length_map, List.length_range]
    have := hk.n2
    omega
  | j + 1, hj => by
    have ih := pls_upto hk short j (by omega)
    have l10 := short _ (pr_mem (ps := ps) (i := (j : Int)) (by omega) (by omega)).1
    have e : plsL n ps (j + 1) = plsL n ps j ++ (List.range ((pr ps (j : Int)).l - 1).toNat).map (fun a : Nat => [(j : Int), 1 + (a : Int)]) := by
      unfold plsL
      rw [List.range_succ, List.flatMap_append, ← List.append_assoc]
      simp
    rw [e, List.length_append, List.length_map, List.length_range]
    omega
theorem few_places {n : Int} {ps : List Pi} (hk : HouseOk n ps) (short : ∀ p ∈ ps, p.l ≤ 10) {zs : List Pl} (nd : zs.Nodup) (h : ∀ z ∈ zs, okP n ps z) : zs.length ≤ 200 := by
  have a := nodup_in nd fun z m => pls_mem.mpr (h z m)
  have b := pls_upto hk short ps.length (Nat.le_refl _)
  have := hk.len
  have := hk.n2
  omega
/-! houses of few places: pipes to ten steps, or to fourteen and few pipes -/
def ShortP (ps : List Pi) : Prop := (∀ p ∈ ps, p.l ≤ 14) ∧ ((∀ p ∈ ps, p.l ≤ 10) ∨ ps.length ≤ 10)
theorem ShortP.of {ps : List Pi} (h : ∀ p ∈ ps, p.l ≤ 10) : ShortP ps := ⟨fun p m => by have := h p m; omega, .inl h⟩
theorem pls_upto14 {n : Int} {ps : List Pi} (hk : HouseOk n ps) (short : ∀ p ∈ ps, p.l ≤ 14) : ∀ j : Nat, j ≤ ps.length → (plsL n ps j).length ≤ 16 + 13 * j
  | 0, _ => by
    unfold plsL
    rw [List.range_zero, List.flatMap_nil, List.append_nil, List.length_map, List.length_range]
    have := hk.n2
    omega
  | j + 1, hj => by
    have ih := pls_upto14 hk short j (by omega)
    have l10 := short _ (pr_mem (ps := ps) (i := (j : Int)) (by omega) (by omega)).1
    have e : plsL n ps (j + 1) = plsL n ps j ++ (List.range ((pr ps (j : Int)).l - 1).toNat).map (fun a : Nat => [(j : Int), 1 + (a : Int)]) := by
      unfold plsL
      rw [List.range_succ, List.flatMap_append, ← List.append_assoc]
      simp
    rw [e, List.length_append, List.length_map, List.length_range]
    omega
theorem few_placesS {n : Int} {ps : List Pi} (hk : HouseOk n ps) (short : ShortP ps) {zs : List Pl} (nd : zs.Nodup) (h : ∀ z ∈ zs, okP n ps z) : zs.length ≤ 200 := by
  rcases short with ⟨s14, s10 | few⟩
  · exact few_places hk s10 nd h
  · have a := nodup_in nd fun z m => pls_mem.mpr (h z m)
    have b := pls_upto14 hk s14 ps.length (Nat.le_refl _)
    omega
end Rw

namespace Rw
open PySem PySem.Spec PyProof.Rows L2
/-! ### the row from one place to another, gone level by level -/
structure Ah (G : Hp) (ak : List (List Key × V)) (F : List Pl) (ps : List Pi) (d : Int → Int → Int) (q : Pl) : Prop where
  len : ak.length = F.length
  at_ : ∀ z ∈ F, ∃ (Tu : Addr) (u : Pl), valV ak (keyOf z) = some (.ref Tu) ∧ G Tu = some (.tup (u.map V.int)) ∧ (z = q ∨ (Adj ps z u ∧ Dp ps d q z = Dp ps d q u + 1))
  no : ∀ z, z ∉ F → valV ak (keyOf z) = none
theorem Ah.keep {G G' : Hp} {ak : List (List Key × V)} {F : List Pl} {ps : List Pi} {d : Int → Int → Int} {q : Pl} (h : Ah G ak F ps d q) (k : KeepT G G') : Ah G' ak F ps d q := ⟨h.len, fun z m => by
  obtain ⟨Tu, u, h1, h2, h3⟩ := h.at_ z m
  exact ⟨Tu, u, h1, k _ _ h2, h3⟩, h.no⟩
theorem Ah.put {G : Hp} {ak : List (List Key × V)} {F : List Pl} {ps : List Pi} {d : Int → Int → Int} {q : Pl} (h : Ah G ak F ps d q) {v u : Pl} {Tu : Addr} (nv : v ∉ F) (eT : G Tu = some (.tup (u.map V.int))) (a : Adj ps v u) (e : Dp ps d q v = Dp ps d q u + 1) : Ah G (putK ak (keyOf v) (.ref Tu)) (F ++ [v]) ps d q := by
  refine ⟨?_, fun t ht => ?_, fun t ht => ?_⟩
  · rw [putK_new _ (h.no v nv), List.length_append, List.length_append, h.len]; rfl
  · rw [valV_put]
    by_cases c : t = v
    · rw [c, if_pos rfl]; exact ⟨Tu, u, rfl, eT, .inr ⟨a, e⟩⟩
    · rw [if_neg (fun z => c (keyOf_inj z))]
      rcases List.mem_append.mp ht with m | m
      · exact h.at_ t m
      · exact absurd (List.mem_singleton.mp m) c
  · rw [valV_put, if_neg (fun z => ht (by rw [keyOf_inj z]; exact List.mem_append_right _ List.mem_cons_self))]
    exact h.no t (fun z => ht (List.mem_append_left _ z))
structure Lv (n : Int) (ps : List Pi) (d : Int → Int → Int) (q : Pl) (t : Int) (F ys : List Pl) : Prop where
  nd : F.Nodup
  ok : ∀ z ∈ F, okP n ps z
  all : ∀ z, okP n ps z → (z ∈ F ↔ Dp ps d q z ≤ t)
  ys : ∀ z, z ∈ ys ↔ okP n ps z ∧ Dp ps d q z = t
structure Lw (n : Int) (ps : List Pi) (d : Int → Int → Int) (q : Pl) (t : Int) (F ys : List Pl) (i : Nat) (fz : List Pl) : Prop where
  nd : (F ++ fz).Nodup
  fr : ∀ z ∈ fz, okP n ps z ∧ Dp ps d q z = t + 1
  cl : ∀ (j : Nat) (y : Pl), j < i → ys[j]? = some y → ∀ v, Adj ps y v → v ∈ F ++ fz
section
variable {n : Int} {ps : List Pi} {d : Int → Int → Int} (T : Tm n ps d) {q : Pl} (hq : okP n ps q)
include T hq
theorem Lv.first : Lv n ps d q 0 [q] [q] where
  nd := by simp
  ok := fun z m => by rw [List.mem_singleton.mp m]; exact hq
  all := fun z oz => ⟨fun m => by rw [List.mem_singleton.mp m, Dp_self T hq]; exact Int.le_refl 0, fun h => List.mem_singleton.mpr (Dp_eq0 T hq oz (by have := Dp_nn T hq oz; omega)).symm⟩
  ys := fun z => ⟨fun m => by rw [List.mem_singleton.mp m]; exact ⟨hq, Dp_self T hq⟩, fun h => List.mem_singleton.mpr (Dp_eq0 T hq h.1 h.2).symm⟩
theorem Lw.new {t : Int} {F ys : List Pl} {i : Nat} {fz : List Pl} (L : Lv n ps d q t F ys) {y v : Pl} (gy : ys[i]? = some y) (a : Adj ps y v) (nv : v ∉ F ++ fz) : okP n ps v ∧ Dp ps d q v = t + 1 ∧ Dp ps d q v = Dp ps d q y + 1 := by
  have hy := (L.ys y).mp (List.mem_of_getElem? gy)
  have ov := ok_adj T a
  have nF : ¬ Dp ps d q v ≤ t := fun z => nv (List.mem_append_left _ ((L.all v ov).mpr z))
  rcases Dp_step T hq a with e | e
  · exact ⟨ov, by omega, e⟩
  · omega
theorem Lw.step {t : Int} {F ys : List Pl} {i : Nat} {fz gs : List Pl} (L : Lv n ps d q t F ys) (W : Lw n ps d q t F ys i fz) {y : Pl} (gy : ys[i]? = some y) (nd : gs.Nodup) (hg : ∀ v, v ∈ gs ↔ Adj ps y v ∧ v ∉ F ++ fz) : Lw n ps d q t F ys (i + 1) (fz ++ gs) where
  nd := by
    rw [← List.append_assoc]
    exact List.nodup_append.mpr ⟨W.nd, nd, fun a ha b hb e => ((hg b).mp hb).2 (by rw [← e]; exact ha)⟩
  fr := fun z m => (List.mem_append.mp m).elim (W.fr z) fun m => by
    obtain ⟨a, nz⟩ := (hg z).mp m
    exact ⟨(Lw.new T hq L gy a nz).1, (Lw.new T hq L gy a nz).2.1⟩
  cl := fun j y' hj gj v a => by
    rw [← List.append_assoc]
    by_cases c : j < i
    · exact List.mem_append_left _ (W.cl j y' c gj v a)
    · have ej : j = i := by omega
      subst ej
      rw [gy] at gj; cases gj
      by_cases m : v ∈ F ++ fz
      · exact List.mem_append_left _ m
      · exact List.mem_append_right _ ((hg v).mpr ⟨a, m⟩)
theorem Lw.done {t : Int} {F ys : List Pl} {fz : List Pl} (t0 : 0 ≤ t) (L : Lv n ps d q t F ys) (W : Lw n ps d q t F ys ys.length fz) : Lv n ps d q (t + 1) (F ++ fz) fz := by
  have up : ∀ z, okP n ps z → Dp ps d q z = t + 1 → z ∈ F ++ fz := fun z oz e => by
    have ne : z ≠ q := fun w => by rw [w, Dp_self T hq] at e; omega
    obtain ⟨u, a, eu⟩ := Dp_par T hq oz ne
    obtain ⟨j, gj⟩ := List.mem_iff_getElem?.mp ((L.ys u).mpr ⟨ok_adj T a, by omega⟩)
    exact W.cl j u (List.getElem?_eq_some_iff.mp gj).1 gj z a.symm
  refine ⟨W.nd, fun z m => (List.mem_append.mp m).elim (L.ok z) (fun m => (W.fr z m).1), fun z oz => ⟨fun m => ?_, fun h => ?_⟩, fun z => ⟨W.fr z, fun h => ?_⟩⟩
  · rcases List.mem_append.mp m with m | m
    · have := (L.all z oz).mp m; omega
    · have := (W.fr z m).2; omega
  · by_cases c : Dp ps d q z ≤ t
    · exact List.mem_append_left _ ((L.all z oz).mpr c)
    · exact up z oz (by omega)
  · rcases List.mem_append.mp (up z h.1 h.2) with m | m
    · have := (L.all z h.1).mp m; omega
    · exact m
end
def RowL (n : Int) (ps : List Pi) (d : Int → Int → Int) (p q : Pl) (zs : List Pl) : Prop := (zs.length : Int) = Dp ps d p q + 1 ∧ ∀ (k : Nat) (z : Pl), zs[k]? = some z → okP n ps z ∧ Dp ps d p z = (k : Int) ∧ Dp ps d z q = Dp ps d p q - (k : Int)
theorem TA.dts {G : Hp} : ∀ {ts : List Addr} {qs : List Pl}, TA G ts qs → Dts [] G (ts.map V.ref) (qs.map tupI)
  | [], [], _ => .nil
  | [], _ :: _, h => nomatch h.1
  | _ :: _, [], h => nomatch h.1
  | t :: ts, q :: qs, h => .cons (.tup List.not_mem_nil (h.2 0 t q rfl rfl) (Dts.ints q)) (TA.dts ⟨Nat.succ.inj h.1, fun i t' q' a b => h.2 (i + 1) t' q' a b⟩)
theorem KeepT.trans {G G1 G2 : Hp} (a : KeepT G G1) (b : KeepT G1 G2) : KeepT G G2 := fun t xs e => b t xs (a t xs e)
theorem nodup_by {α : Type} {zs : List α} {f : α → Int} (h : ∀ (k : Nat) (z : α), zs[k]? = some z → f z = (k : Int)) : zs.Nodup := List.pairwise_iff_getElem.mpr fun i j hi hj hij e => by
  have a := h i _ (List.getElem?_eq_getElem hi)
  have b := h j _ (List.getElem?_eq_getElem hj)
  rw [e, b] at a
  omega
theorem TA.at {G : Hp} {ts : List Addr} {qs : List Pl} (h : TA G ts qs) {i : Nat} {x : V} (gx : (ts.map V.ref)[i]? = some x) : ∃ (t : Addr) (q : Pl), x = .ref t ∧ ts[i]? = some t ∧ qs[i]? = some q ∧ G t = some (.tup (q.map V.int)) := by
  rw [List.getElem?_map] at gx
  obtain ⟨t, gt, rfl⟩ := Option.map_eq_some_iff.mp gx
  have hi := (List.getElem?_eq_some_iff.mp gt).1
  have gq : qs[i]? = some (qs[i]'(by rw [← h.1]; exact hi)) := List.getElem?_eq_getElem _
  exact ⟨t, _, rfl, gt, gq, h.2 i t _ gt gq⟩
theorem TA.dt {G : Hp} {t : Addr} {q : Pl} (e : G t = some (.tup (q.map V.int))) : Dt [] G (.ref t) (tupI q) := .tup List.not_mem_nil e (Dts.ints q)
section
variable {P : Program} {w : World} {K : PySem.W.Frag} {mg : Str → Option Value} {base : Heap}
abbrev sLRo : Stmt := topS 38
abbrev nLRo : List Str := ["_law_nexts_here", "_law_one", "_law_other", "_law_ahead", "_law_some", "_law_further", "_law_place", "_law_near", "_law_found"]
theorem scLRo : FnScope nLRo ["_law_nexts_here", "_law_one", "_law_other"] (defScope sLRo) := ⟨rfl, rfl, rfl, by decide +kernel, rfl, by decide +kernel, by decide +kernel⟩
def spLRo : Sp := fun vs H Q _ => ∃ (Fd : Addr) (kvs : List (List Key × V)) (v1 v2 : V) (n : Int) (ps : List Pi) (d : Int → Int → Int) (p q : Pl), vs = [.ref Fd, v1, v2] ∧ Rd H Fd (.dT kvs) ∧ Nxs H kvs (Adj ps) (okP n ps) 1000 ∧ HouseOk n ps ∧ Tm n ps d ∧ (∀ p ∈ ps, p.l ≤ 10) ∧ Dt [] H v1 (tupI p) ∧ Dt [] H v2 (tupI q) ∧ okP n ps p ∧ okP n ps q ∧
  ∀ (H' : Hp) (L : Addr) (us : List V) (zs : List Pl), Keep [] H H' → H L = none → H' L = some (.lst us) → Dts [] H' us (zs.map tupI) → RowL n ps d p q zs → Q (.ref L) H'
theorem ok_lRo (h : Has K mg "_law_row" sLRo) (B : Blt mg) : Can P w K mg base "_law_row" ["_law_nexts_here", "_law_one", "_law_other"] 1 spLRo := by
  obtain ⟨f, fd, F, g⟩ := h
  refine ⟨f, fd, F.ok (k := 0) scLRo (fun vs H Q E h => ?_) (fun cdv A outer s H vs Q E hr h => ?_), g, F.kp, F.binds fun _ _ _ _ _ _ us hl => match us, hl with | [_, _, _], _ => rfl⟩
  · obtain ⟨Fd, kvs, v1, v2, n, ps, d, p, q, rfl, _⟩ := h
    rfl
  · obtain ⟨Fd, kvs, v1, v2, n, ps, d, p, q, rfl, eF, nx, hk, T, short, h1, h2, okp, okq, k⟩ := h
    refine ⟨_, pss_cons (ps_set (i := 3) scLRo.nd rfl (by first | exact Or.inl rfl | exact Or.inr rfl) (pe_dispT (hu_of hr) (pps_cons (pv 2) (pv 2) pps_nil)))
      (pss_cons (ps_set (i := 4) scLRo.nd rfl (by first | exact Or.inl rfl | exact Or.inr rfl) (pe_lst (pa_cons (pv 2) pa_nil)))
      (pss_cons (ps_while PassesOwn.never (pt_cmp (pc_dnotin (hu_of hr) (pv 1) (pv 3)))
      (pss_cons (ps_set (i := 5) scLRo.nd rfl (by first | exact Or.inl rfl | exact Or.inr rfl) (pe_lst pa_nil))
      (pss_cons (ps_for PassesOwn.never rfl (pi_list (pv 4)) (pg_name (i := 6) scLRo.nd rfl (by first | exact Or.inl rfl | exact Or.inr rfl))
      (pss_one (ps_for PassesOwn.never rfl (pi_list (pe_lc (own := [("_law_near", 7)]) (g := gName 7) rfl scLRo.nd (pi_list (pe_dget (hu_of hr) (pv 0) (pv 6) (fun _ _ => rfl))) (blkOk_by (N := nLRo) (sc := defScope sLRo) (by decide +kernel)) (fun _ _ _ _ _ => (pg_name (i := 7) scLRo.nd rfl (by first | exact Or.inl rfl | exact Or.inr rfl))) (fun _ _ _ _ _ => pts_one (pt_cmp (pc_dnotin (hu_of hr) (pv 7) (pv 3)))) (fun _ _ _ _ _ => (pv 7)))) (pg_name (i := 7) scLRo.nd rfl (by first | exact Or.inl rfl | exact Or.inr rfl))
      (pss_cons (ps_dput (hu_of hr) (pv 3) (pv 7) (pv 6) rfl)
      (pss_one (ps_expr (pe_bm PySem.F.plainAttrs_list PySem.F.slot_list_append PySem.F.type_list_append mt_append (pv 5) (pa_cons (pv 7) pa_nil))))))))
      (pss_one (ps_set (i := 4) scLRo.nd rfl (by first | exact Or.inl rfl | exact Or.inr rfl) (pv 5))))))
      (pss_cons (ps_set (i := 8) scLRo.nd rfl (by first | exact Or.inl rfl | exact Or.inr rfl) (pe_lst (pa_cons (pv 1) pa_nil)))
      (pss_cons (ps_while PassesOwn.never (pt_cmpR (op_neD hr.units) (pe_ix ix_list (pv 8) (pe_un un_neg pe_int) (fun _ _ => rfl)) (pv 2) (nomark _))
      (pss_one (ps_expr (pe_bm PySem.F.plainAttrs_list PySem.F.slot_list_append PySem.F.type_list_append mt_append (pv 8) (pa_cons (pe_dget (hu_of hr) (pv 3) (pe_ix ix_list (pv 8) (pe_un un_neg pe_int) (fun _ _ => rfl)) (fun _ _ => rfl)) pa_nil)))))
      (pss_one (ps_ret (pv 8))))))), ?_⟩
    obtain ⟨Tp, rfl, _, eTp⟩ := tupI_at h1
    obtain ⟨Tq, rfl, _, eTq⟩ := tupI_at h2
    refine fun Ad nA => ⟨.ref Tq, rfl, .ref Tq, rfl, upd_same, Tq, keyOf q, .ref Tq, rfl, by rw [keyOf_kV]; exact Keep.new (av := []) nA _ _ eTq List.not_mem_nil, ?_⟩
    have k1 : Keep [] H (upd (upd H Ad (.dT [])) Ad (.dT [(keyOf q, .ref Tq)])) := (Keep.new nA).upd nA
    have eA1 : (upd (upd H Ad (.dT [])) Ad (.dT [(keyOf q, .ref Tq)])) Ad = some (.dT [(keyOf q, .ref Tq)]) := upd_same
    generalize upd (upd H Ad (.dT [])) Ad (.dT [(keyOf q, .ref Tq)]) = H1 at k1 eA1 ⊢
    refine ⟨.ref Tq, rfl, show 1 ≤ sizeLine by decide, fun S nS => ?_⟩
    have k2 := k1.trans (Keep.new (av := []) (o := .lst [.ref Tq]) nS)
    have eA2 := Keep.new (av := []) (o := .lst [.ref Tq]) nS _ _ eA1 List.not_mem_nil
    have eS2 : (upd H1 S (.lst [.ref Tq])) S = some (.lst ([Tq].map V.ref)) := upd_same
    generalize upd H1 S (.lst [.ref Tq]) = H2 at k2 eA2 eS2 ⊢
    have ta2 : TA H2 [Tq] [q] := ⟨rfl, fun i t z a b => by
      cases i with
      | zero => cases a; cases b; exact k2 _ _ eTq List.not_mem_nil
      | succ i => cases a⟩
    have ah2 : Ah H2 [(keyOf q, .ref Tq)] [q] ps d q := ⟨rfl, fun z m => by
      rw [List.mem_singleton.mp m]
      exact ⟨Tq, q, valV_pos rfl, k2 _ _ eTq List.not_mem_nil, .inl rfl⟩, fun z m => by
      rw [valV_neg (fun w => m (List.mem_singleton.mpr (keyOf_inj w).symm))]; rfl⟩
    refine ⟨fun m σ G => ∃ (t : Int) (F ys : List Pl) (ak : List (List Key × V)) (S : Addr) (ts : List Addr) (s5 s6 s7 : Option V), σ = [some (.ref Fd), some (.ref Tp), some (.ref Tq), some (.ref Ad), some (.ref S), s5, s6, s7, none] ∧ Keep [] H G ∧ G Ad = some (.dT ak) ∧ G S = some (.lst (ts.map V.ref)) ∧ TA G ts ys ∧ Ah G ak F ps d q ∧ Lv n ps d q t F ys ∧ 0 ≤ t ∧ m = (Dp ps d q p - t).toNat,
      ⟨_, 0, [q], [q], _, S, [Tq], none, none, none, rfl, k2, eA2, eS2, ta2, ah2, Lv.first T okq, Int.le_refl 0, rfl⟩, fun m σ G pp => ?_⟩
    obtain ⟨t, F, ys, ak, S, ts, s5, s6, s7, rfl, kG, eA, eS, ta, ah, lv, t0, rfl⟩ := pp
    have eTpG := kG _ _ eTp List.not_mem_nil
    refine ⟨.ref Tp, rfl, .ref Ad, rfl, Ad, _, rfl, DGet.t (k := keyOf p) eA (by rw [keyOf_kV]; exact eTpG), _, rfl, ?_⟩
    by_cases c : p ∈ F
    · obtain ⟨T', u', e1, _⟩ := ah.at_ p c
      rw [e1]
      refine iteF ?_
      have dpt : Dp ps d q p ≤ t := (lv.all p okp).mp c
      have sym := Dp_sym T okp okq
      refine ⟨.ref Tp, rfl, show 1 ≤ sizeLine by decide, fun W nW => ?_⟩
      have kW : Keep [] G (upd G W (.lst [.ref Tp])) := Keep.new nW
      have eW0 : (upd G W (.lst [.ref Tp])) W = some (.lst (([] ++ [Tp] : List Addr).map V.ref)) := upd_same
      have fW : H W = none := kG.fr nW
      have eA1 := kW _ _ eA List.not_mem_nil
      have kG1 := kG.trans kW
      have ah1 := ah.keep (.of kW)
      generalize upd G W (.lst [.ref Tp]) = G1 at kW eW0 eA1 kG1 ah1 ⊢
      have eTp1 := kG1 _ _ eTp List.not_mem_nil
      have eTq1 := kG1 _ _ eTq List.not_mem_nil
      refine ⟨fun m σ J => ∃ (zs : List Pl) (z : Pl) (ts0 : List Addr) (Tz : Addr), σ = [some (.ref Fd), some (.ref Tp), some (.ref Tq), some (.ref Ad), some (.ref S), s5, s6, s7, some (.ref W)] ∧ Keep [] H J ∧ J Ad = some (.dT ak) ∧ Ah J ak F ps d q ∧ J Tq = some (.tup (q.map V.int)) ∧ J W = some (.lst ((ts0 ++ [Tz]).map V.ref)) ∧ TA J (ts0 ++ [Tz]) (zs ++ [z]) ∧ (∀ (k : Nat) (x : Pl), (zs ++ [z])[k]? = some x → okP n ps x ∧ Dp ps d p x = (k : Int) ∧ Dp ps d x q = Dp ps d p q - (k : Int)) ∧ m = (Dp ps d z q).toNat,
        ⟨_, [], p, [], Tp, rfl, kG1, eA1, ah1, eTq1, eW0, ⟨rfl, fun i x y a b => ?_⟩, fun j x gx => ?_, rfl⟩, fun m σ J pp => ?_⟩
      · cases i with
        | zero => cases a; cases b; exact eTp1
        | succ i => cases a
      · cases j with
        | zero => cases gx; exact ⟨okp, Dp_self T okp, by show _ = _ - ((0 : Nat) : Int); omega⟩
        | succ j => cases gx
      obtain ⟨zs, z, ts0, Tz, rfl, kJ, eAJ, ahJ, eTqJ, eW, taJ, hz, rfl⟩ := pp
      have lt0 : ts0.length = zs.length := by
        have := taJ.1
        rw [List.length_append, List.length_append] at this
        exact Nat.succ.inj this
      have gz : (zs ++ [z])[zs.length]? = some z := by rw [List.getElem?_append_right (Nat.le_refl _), Nat.sub_self]; rfl
      have gTz : (ts0 ++ [Tz])[zs.length]? = some Tz := by rw [← lt0, List.getElem?_append_right (Nat.le_refl _), Nat.sub_self]; rfl
      have eTz := taJ.2 _ _ _ gTz gz
      obtain ⟨okz, z1, z2⟩ := hz _ _ gz
      have szq := Dp_sym T okz okq
      have nnz := Dp_nn T okz okq
      have rw1 : (ts0 ++ [Tz]).map V.ref = ts0.map V.ref ++ [.ref Tz] := by rw [List.map_append]; rfl
      have few := few_places hk short (nodup_by (fun k x g => (hz k x g).2.1)) (fun x m => by
        obtain ⟨j, gj⟩ := List.mem_iff_getElem?.mp m
        exact (hz j x gj).1)
      rw [List.length_append] at few
      refine ⟨.ref W, rfl, 1, rfl, W, _, -1, .ref Tz, rfl, rfl, SqL.of eW, by rw [rw1]; exact atI_last _ _, .ref Tq, rfl, tupI z, tupI q, tupI_dp (TA.dt eTz), tupI_dp (TA.dt eTqJ), tupI_shaped _, tupI_shaped _, _, rfl, ?_⟩
      rw [eqv_tupI]
      by_cases cz : z = q
      · rw [decide_eq_true cz]
        refine iteF ⟨.ref W, rfl, k J W _ (zs ++ [z]) kJ fW eW taJ.dts ⟨?_, hz⟩⟩
        rw [cz, Dp_self T okq] at z2
        rw [List.length_append]
        show ((zs.length + 1 : Nat) : Int) = _
        omega
      · rw [decide_eq_false cz]
        refine iteT ⟨_, fun σ' J' h => h, ?_⟩
        have mz : z ∈ F := (lv.all z okz).mpr (by omega)
        obtain ⟨Tu, u, vu, eTu, hu⟩ := ahJ.at_ z mz
        obtain ⟨au, eu⟩ := hu.resolve_left cz
        have oku := ok_adj T au
        have s1 := Dp_sym T oku okq
        have s2 := Dp_nn T oku okq
        have t1 := Dp_le T okp okz oku
        have t2 := Dp_le T okp oku okq
        have e1 : Dp ps d z u = 1 := by
          rcases Dp_step T okz au with h | h
          · rw [Dp_self T okz] at h; omega
          · have := Dp_nn T okz oku
            rw [Dp_self T okz] at h; omega
        refine ⟨.ref W, rfl, .inl ⟨rfl, _, SqL.of eW⟩, .ref Ad, rfl, .ref W, rfl, 1, rfl, W, _, -1, .ref Tz, rfl, rfl, SqL.of eW, by rw [rw1]; exact atI_last _ _, Ad, .ref Tu, rfl, by rw [← vu]; exact DGet.t (k := keyOf z) eAJ (by rw [keyOf_kV]; exact eTz), W, _, _, rfl, rfl, eW, by rw [List.length_map, List.length_append]; exact Nat.lt_of_le_of_lt (show ts0.length + 1 ≤ 1000 by rw [lt0]; have : zs.length + 1 ≤ 200 := few; omega) (by decide), ?_⟩
        have kt := KeepT.lst (vs := (ts0 ++ [Tz]).map V.ref ++ [.ref Tu]) eW
        have nAW : Ad ≠ W := fun w => by rw [w, eW] at eAJ; cases eAJ
        refine ⟨_, ?_, zs ++ [z], u, ts0 ++ [Tz], Tu, rfl, kJ.upd fW, by rw [upd_ne nAW]; exact eAJ, ahJ.keep kt, kt _ _ eTqJ, by rw [upd_same, List.map_append (f := V.ref) (l₁ := ts0 ++ [Tz])]; rfl, (taJ.snoc eTu).keep kt, fun j x gx => ?_, rfl⟩
        · omega
        · by_cases jl : j < (zs ++ [z]).length
          · rw [List.getElem?_append_left jl] at gx
            exact hz j x gx
          · have jl2 := (List.getElem?_eq_some_iff.mp gx).1
            rw [List.length_append, List.length_singleton] at jl2
            have ej : j = (zs ++ [z]).length := by omega
            rw [List.getElem?_append_right (by omega), ej, Nat.sub_self] at gx
            have ex : u = x := Option.some.inj gx
            subst ex
            rw [ej, List.length_append, List.length_singleton]
            exact ⟨oku, by omega, by omega⟩
    · rw [ah.no p c]
      refine iteT ⟨_, fun σ' J' h => h, ?_⟩
      have ct : ¬ Dp ps d q p ≤ t := fun w => c ((lv.all p okp).mpr w)
      refine ⟨show 0 ≤ sizeLine by decide, fun Fr nFr => ?_⟩
      have kF : Keep [] G (upd G Fr (.lst [])) := Keep.new nFr
      have eFr : (upd G Fr (.lst [])) Fr = some (.lst (([] : List Addr).map V.ref)) := upd_same
      have fFr : H Fr = none := kG.fr nFr
      have nSF : S ≠ Fr := ne_of_none eS nFr
      have kH1 := kG.trans kF
      have eA1 := kF _ _ eA List.not_mem_nil
      have eS1 := kF _ _ eS List.not_mem_nil
      have ta1 := ta.keep (.of kF)
      have ah1 := ah.keep (.of kF)
      generalize upd G Fr (.lst []) = G1 at kF eFr kH1 eA1 eS1 ta1 ah1 ⊢
      clear kF kG eA eS ta ah
      have few : ∀ {l : List Pl}, (F ++ l).Nodup → (∀ z ∈ l, okP n ps z) → (F ++ l).length ≤ 200 := fun {l} nd h => few_places hk short nd fun z m => (List.mem_append.mp m).elim (lv.ok z) (h z)
      refine ⟨.ref S, rfl, S, rfl, ⟨_, SqL.of eS1⟩, for_list (K := K) (a := S) (xs := ts.map V.ref) (fun i σ J => ∃ (s6 s7 : Option V) (fz : List Pl) (fts : List Addr) (ak : List (List Key × V)), σ = [some (.ref Fd), some (.ref Tp), some (.ref Tq), some (.ref Ad), some (.ref S), some (.ref Fr), s6, s7, none] ∧ Keep [] H J ∧ J Ad = some (.dT ak) ∧ J S = some (.lst (ts.map V.ref)) ∧ TA J ts ys ∧ J Fr = some (.lst (fts.map V.ref)) ∧ TA J fts fz ∧ Ah J ak (F ++ fz) ps d q ∧ Lw n ps d q t F ys i fz)
        ⟨s6, s7, [], [], ak, rfl, kH1, eA1, eS1, ta1, eFr, ⟨rfl, fun i x y a => (by cases a)⟩, by rw [List.append_nil]; exact ah1, ⟨by rw [List.append_nil]; exact lv.nd, fun z m => (nomatch m), fun j y hj => absurd hj (Nat.not_lt_zero _)⟩⟩ (fun i σ J _ z => ?_) (fun i x σ J gx z => ?_) (fun σ J z => ?_)⟩
      · obtain ⟨_, _, _, _, _, _, _, _, e, _⟩ := z
        exact SqL.of e
      · obtain ⟨s6, s7, fz, fts, ak, rfl, kJ, eAJ, eSJ, taJ, eFJ, tfJ, ahJ, lw⟩ := z
        obtain ⟨Ty, y, rfl, gTy, gy, eTy⟩ := taJ.at gx
        obtain ⟨oky, ey⟩ := (lv.ys y).mp (List.mem_of_getElem? gy)
        obtain ⟨Lz, tz, qs, vz, eLz0, taz0, lz, ndq, hq⟩ := nx.at_ y oky
        have eLz := kJ _ _ eLz0 List.not_mem_nil
        have taz := taz0.keep (.of kJ)
        have eFJd : Rd J Fd (.dT kvs) := eF.elim (fun e => .inl (kJ _ _ e List.not_mem_nil)) (fun ⟨o, e⟩ => .inr ⟨o, kJ _ _ e List.not_mem_nil⟩)
        have dg : DGet J Fd (.ref Ty) (valV kvs (keyOf y)) := .inr ⟨kvs, keyOf y, Ty, eFJd, rfl, by rw [keyOf_kV]; exact eTy, rfl⟩
        rw [vz] at dg
        refine ⟨.ref Fd, rfl, .ref Ty, rfl, Fd, .ref Lz, rfl, dg, Lz, rfl, ⟨_, SqL.of eLz⟩, fun W nW => ?_⟩
        refine lc_list (K := K) (a := Lz) (xs := tz.map V.ref) (fun i M => Keep [] J M ∧ ∃ ws : List Addr, M W = some (.lst (ws.map V.ref)) ∧ ws.length ≤ i ∧ TA M ws ((qs.take i).filter fun v => decide (v ∉ F ++ fz)))
          ⟨Keep.new nW, [], upd_same, Nat.le_refl _, ⟨rfl, fun i x y a => (by cases a)⟩⟩ (fun i M _ z => SqL.of (z.1 _ _ eLz List.not_mem_nil)) (fun i x M gx z => ?_) (fun M z => ?_)
        · obtain ⟨kM, ws, eW, lw', tw⟩ := z
          obtain ⟨Tv, v, rfl, gTv, gv, eTv⟩ := (taz.keep (.of kM)).at gx
          have hi := (List.getElem?_eq_some_iff.mp gTv).1
          have tk : qs.take (i + 1) = qs.take i ++ [v] := by rw [List.take_add_one, gv]; rfl
          refine ⟨rfl, .ref Tv, rfl, .ref Ad, rfl, Ad, _, rfl, DGet.t (k := keyOf v) (kM _ _ eAJ List.not_mem_nil) (by rw [keyOf_kV]; exact eTv), _, rfl, ?_⟩
          by_cases m : v ∈ F ++ fz
          · obtain ⟨T', u', e1, _⟩ := ahJ.at_ v m
            rw [e1]
            refine iteF ⟨kM, ws, eW, by omega, ?_⟩
            rw [tk, List.filter_append, show [v].filter (fun v => decide (v ∉ F ++ fz)) = [] by simp only [List.filter, m, not_true_eq_false, decide_false], List.append_nil]
            exact tw
          · rw [ahJ.no v m]
            refine iteT ⟨.ref Tv, rfl, _, eW, by rw [List.length_map]; exact Nat.lt_of_le_of_lt (show ws.length ≤ 1000 by omega) (by decide), kM.upd nW, ws ++ [Tv], by rw [upd_same, List.map_append]; rfl, by rw [List.length_append]; show ws.length + 1 ≤ _; omega, ?_⟩
            rw [tk, List.filter_append, show [v].filter (fun v => decide (v ∉ F ++ fz)) = [v] by simp only [List.filter, m, not_false_eq_true, decide_true]]
            exact (tw.snoc eTv).keep (.lst eW)
        · obtain ⟨kM, ws, eW, lw', tw⟩ := z
          have el : (tz.map V.ref).length = qs.length := by rw [List.length_map, taz.1]
          rw [el, List.take_length] at tw
          have hg : ∀ v, v ∈ qs.filter (fun v => decide (v ∉ F ++ fz)) ↔ Adj ps y v ∧ v ∉ F ++ fz := fun v => by rw [List.mem_filter, hq v]; exact and_congr_right fun _ => decide_eq_true_iff
          have ndg : (qs.filter (fun v => decide (v ∉ F ++ fz))).Nodup := List.Pairwise.filter _ ndq
          generalize hgs : qs.filter (fun v => decide (v ∉ F ++ fz)) = gs at tw hg ndg
          have lw2 := lw.step T okq lv gy ndg hg
          have fewg := few lw2.nd (fun z m => (lw2.fr z m).1)
          rw [List.length_append, List.length_append] at fewg
          have nWF : W ≠ Fr := (ne_of_none eFJ nW).symm
          refine ⟨W, rfl, ⟨_, SqL.of eW⟩, for_list (K := K) (a := W) (xs := ws.map V.ref) (fun i σ X => ∃ (s7 : Option V) (fts : List Addr) (ak : List (List Key × V)), σ = [some (.ref Fd), some (.ref Tp), some (.ref Tq), some (.ref Ad), some (.ref S), some (.ref Fr), some (.ref Ty), s7, none] ∧ Keep [] H X ∧ X Ad = some (.dT ak) ∧ X S = some (.lst (ts.map V.ref)) ∧ TA X ts ys ∧ X W = some (.lst (ws.map V.ref)) ∧ TA X ws gs ∧ X Ty = some (.tup (y.map V.int)) ∧ X Fr = some (.lst (fts.map V.ref)) ∧ TA X fts (fz ++ gs.take i) ∧ Ah X ak (F ++ (fz ++ gs.take i)) ps d q)
            ⟨s7, fts, ak, rfl, kJ.trans kM, kM _ _ eAJ List.not_mem_nil, kM _ _ eSJ List.not_mem_nil, taJ.keep (.of kM), eW, tw, kM _ _ eTy List.not_mem_nil, kM _ _ eFJ List.not_mem_nil, by rw [List.take_zero, List.append_nil]; exact tfJ.keep (.of kM), by rw [List.take_zero, List.append_nil]; exact ahJ.keep (.of kM)⟩ (fun i σ X _ z => ?_) (fun i x σ X gx z => ?_) (fun σ X z => ?_)⟩
          · obtain ⟨_, _, _, _, _, _, _, _, e, _⟩ := z
            exact SqL.of e
          · obtain ⟨s7, fts, ak, rfl, kX, eAX, eSX, taX, eWX, twX, eTyX, eFX, tfX, ahX⟩ := z
            obtain ⟨Tv, v, rfl, gTv, gv, eTv⟩ := twX.at gx
            obtain ⟨av, nv⟩ := (hg v).mp (List.mem_of_getElem? gv)
            obtain ⟨okv, ev1, ev2⟩ := Lw.new T okq lv gy av nv
            have tk : gs.take (i + 1) = gs.take i ++ [v] := by rw [List.take_add_one, gv]; rfl
            have hi := (List.getElem?_eq_some_iff.mp gv).1
            have nvi : v ∉ F ++ (fz ++ gs.take i) := fun m => by
              rw [← List.append_assoc] at m
              rcases List.mem_append.mp m with m | m
              · exact nv m
              · obtain ⟨j, gj⟩ := List.mem_iff_getElem?.mp m
                have jl := (List.getElem?_eq_some_iff.mp gj).1
                rw [List.length_take] at jl
                rw [List.getElem?_take_of_lt (by omega)] at gj
                have := (List.getElem?_inj (j := j) hi ndg).mp (by rw [gv, gj])
                omega
            have lak : ak.length ≤ 200 := by rw [ahX.len, List.length_append, List.length_append, List.length_take]; omega
            have lft : fts.length ≤ 200 := by rw [tfX.1, List.length_append, List.length_take]; omega
            refine ⟨.ref Ty, rfl, .ref Ad, rfl, .ref Tv, rfl, Ad, _, rfl, DPut.t (k := keyOf v) eAX (by rw [keyOf_kV]; exact eTv) (Nat.lt_of_le_of_lt lak (by decide)), ?_⟩
            have ah2 := ahX.put nvi eTyX av.symm ev2
            have kt := KeepT.dct (vs := putK ak (keyOf v) (.ref Ty)) eAX
            have nFA : Fr ≠ Ad := fun w => by rw [w, eAX] at eFX; cases eFX
            have nSA : S ≠ Ad := fun w => by rw [w, eAX] at eSX; cases eSX
            have nWA : W ≠ Ad := fun w => by rw [w, eAX] at eWX; cases eWX
            have eF2 : (upd X Ad (.dT (putK ak (keyOf v) (.ref Ty)))) Fr = some (.lst (fts.map V.ref)) := by rw [upd_ne nFA]; exact eFX
            have eS2 : (upd X Ad (.dT (putK ak (keyOf v) (.ref Ty)))) S = some (.lst (ts.map V.ref)) := by rw [upd_ne nSA]; exact eSX
            have eW2 : (upd X Ad (.dT (putK ak (keyOf v) (.ref Ty)))) W = some (.lst (ws.map V.ref)) := by rw [upd_ne nWA]; exact eWX
            have eA2 : (upd X Ad (.dT (putK ak (keyOf v) (.ref Ty)))) Ad = some (.dT (putK ak (keyOf v) (.ref Ty))) := upd_same
            have kX2 : Keep [] H (upd X Ad (.dT (putK ak (keyOf v) (.ref Ty)))) := kX.upd nA
            generalize upd X Ad (.dT (putK ak (keyOf v) (.ref Ty))) = X2 at kt eF2 eS2 eW2 eA2 kX2 ⊢
            refine ⟨.ref Fr, rfl, .inl ⟨rfl, _, SqL.of eF2⟩, .ref Tv, rfl, Fr, _, _, rfl, rfl, eF2, by rw [List.length_map]; exact Nat.lt_of_le_of_lt lft (by decide), ?_⟩
            have kt2 := kt.trans (KeepT.lst (vs := fts.map V.ref ++ [.ref Tv]) eF2)
            refine ⟨_, fts ++ [Tv], _, rfl, kX2.upd fFr, by rw [upd_ne nFA.symm]; exact eA2, by rw [upd_ne nSF]; exact eS2, taX.keep kt2, by rw [upd_ne nWF]; exact eW2, twX.keep kt2, kt2 _ _ eTyX, by rw [upd_same, List.map_append]; rfl, ?_, ?_⟩
            · rw [tk, ← List.append_assoc]
              exact (tfX.snoc eTv).keep kt2
            · rw [tk, ← List.append_assoc, ← List.append_assoc]
              rw [← List.append_assoc] at ah2
              exact ah2.keep kt2
          · obtain ⟨s7, fts, ak, rfl, kX, eAX, eSX, taX, eWX, twX, eTyX, eFX, tfX, ahX⟩ := z
            have el2 : (ws.map V.ref).length = gs.length := by rw [List.length_map, twX.1]
            rw [el2, List.take_length] at tfX ahX
            exact ⟨_, s7, fz ++ gs, fts, ak, rfl, kX, eAX, eSX, taX, eFX, tfX, ahX, lw2⟩
      · obtain ⟨s6, s7, fz, fts, ak, rfl, kJ, eAJ, eSJ, taJ, eFJ, tfJ, ahJ, lw⟩ := z
        have el : (ts.map V.ref).length = ys.length := by rw [List.length_map, taJ.1]
        rw [el] at lw
        exact ⟨.ref Fr, rfl, _, by omega, t + 1, F ++ fz, fz, ak, Fr, fts, _, _, _, rfl, kJ, eAJ, eFJ, tfJ, ahJ, lw.done T okq t0 lv, by omega, rfl⟩
end
end Rw

namespace Rw
open PySem PySem.Spec PyProof.Rows L2
/-! ### a rope that stands in a small house -/
theorem KeepT.D {G G' : Hp} {D : Addr} {us : List V} (eD : G D = some (.lst us)) (k : Keep [D] G G') : KeepT G G' := fun t xs e => k _ _ e (fun w => by rw [List.mem_singleton.mp w, eD] at e; cases e)
theorem Nxs.keepD {G G' : Hp} {kvs : List (List Key × V)} {R : Pl → Pl → Prop} {A : Pl → Prop} {m : Nat} {D : Addr} {us : List V} (h : Nxs G kvs R A m) (nl : ∀ p L, valV kvs (keyOf p) = some (.ref L) → L ≠ D) (eD : G D = some (.lst us)) (k : Keep [D] G G') : Nxs G' kvs R A m := ⟨fun p a => by
  obtain ⟨L, ts, qs, e1, e2, e3, e4⟩ := h.at_ p a
  exact ⟨L, ts, qs, e1, k _ _ e2 (fun w => nl p L e1 (List.mem_singleton.mp w)), e3.keep (.D eD k), e4⟩, h.inj⟩
theorem Dq.lst {H : Hp} {D C : Addr} {b : Int} (x : Dq H D C b) : ∃ us, H D = some (.lst us) := by
  obtain ⟨⟨cs, j, r, t, e1, _⟩, _⟩ := x
  exact ⟨_, e1⟩
theorem tupI_off {H : Hp} {D : Addr} {ws : List V} (e : H D = some (.lst ws)) {v : V} {z : Pl} (h : Dt [] H v (tupI z)) : Dt [D] H v (tupI z) := by
  obtain ⟨a, rfl, _, ea⟩ := tupI_at h
  exact .tup (fun m => by rw [List.mem_singleton.mp m, e] at ea; cases ea) ea (Dts.ints z)
theorem tupIs_off {H : Hp} {D : Addr} {ws : List V} (e : H D = some (.lst ws)) : ∀ {us : List V} {zs : List Pl}, Dts [] H us (zs.map tupI) → Dts [D] H us (zs.map tupI)
  | [], [], _ => .nil
  | _ :: _, _ :: _, .cons h t => .cons (tupI_off e h) (tupIs_off e t)
theorem RowL.few {n : Int} {ps : List Pi} {d : Int → Int → Int} {p q : Pl} {zs : List Pl} (h : RowL n ps d p q zs) (hk : HouseOk n ps) (short : ∀ p ∈ ps, p.l ≤ 10) : zs.length ≤ 200 :=
  few_places hk short (nodup_by (fun k x g => (h.2 k x g).2.1)) (fun x m => by
    obtain ⟨j, gj⟩ := List.mem_iff_getElem?.mp m
    exact (h.2 j x gj).1)
theorem RowL.ok {n : Int} {ps : List Pi} {d : Int → Int → Int} {p q : Pl} {zs : List Pl} (h : RowL n ps d p q zs) : ∀ z ∈ zs, okP n ps z := fun x m => by
  obtain ⟨j, gj⟩ := List.mem_iff_getElem?.mp m
  exact (h.2 j x gj).1
theorem RowL.one {n : Int} {ps : List Pi} {d : Int → Int → Int} {p q : Pl} (T : Tm n ps d) (hp : okP n ps p) (a : Adj ps p q) : RowL n ps d p q [p, q] ∧ Dp ps d p q = 1 := by
  have hq := ok_adj T a
  have e1 : Dp ps d p q = 1 := by
    rcases Dp_step T hp a with h | h
    · rw [Dp_self T hp] at h; omega
    · have := Dp_nn T hp hq
      rw [Dp_self T hp] at h; omega
  refine ⟨⟨by rw [e1]; rfl, fun k z g => ?_⟩, e1⟩
  match k, g with
  | 0, g => cases g; exact ⟨hp, Dp_self T hp, by show _ = _ - ((0 : Nat) : Int); omega⟩
  | 1, g => cases g; exact ⟨hq, e1, by rw [Dp_self T hq, e1]; rfl⟩
/-! the ends of a row -/
theorem RowL.ends {n : Int} {ps : List Pi} {d : Int → Int → Int} {p q : Pl} {zs : List Pl} (T : Tm n ps d) (hp : okP n ps p) (hq : okP n ps q) (h : RowL n ps d p q zs) : zs[0]? = some p ∧ ∃ zs', zs = zs' ++ [q] := by
  have nn := Dp_nn T hp hq
  obtain ⟨l, hz⟩ := h
  constructor
  · have g : zs[0]? = some (zs[0]'(by omega)) := List.getElem?_eq_getElem _
    obtain ⟨o, e, _⟩ := hz 0 _ g
    exact g.trans (congrArg some (Dp_eq0 T hp o e).symm)
  · rcases List.eq_nil_or_concat zs with rfl | ⟨zs', x, rfl⟩
    · exact absurd l (by show ¬ (((0 : Nat) : Int) = _); omega)
    · rw [List.concat_eq_append] at l hz ⊢
      rw [List.length_append, List.length_singleton] at l
      obtain ⟨o, e, e2⟩ := hz zs'.length x (by rw [List.getElem?_append_right (Nat.le_refl _), Nat.sub_self]; rfl)
      exact ⟨zs', by rw [Dp_eq0 T o hq (by omega)]⟩
/-! every place has one next to it -/
theorem has_next {n : Int} {ps : List Pi} {d : Int → Int → Int} {p : Pl} (T : Tm n ps d) (n2 : 2 ≤ n) (hp : okP n ps p) : ∃ q, Adj ps p q := by
  obtain ⟨s, os, ne⟩ : ∃ s, okP n ps s ∧ p ≠ s := by
    by_cases c : p = [0]
    · exact ⟨[1], ⟨by omega, by omega⟩, fun z => by rw [c] at z; cases z⟩
    · exact ⟨[0], ⟨by omega, by omega⟩, c⟩
  obtain ⟨q, a, _⟩ := Dp_par T os hp ne
  exact ⟨q, a⟩
section
variable {P : Program} {w : World} {K : PySem.W.Frag} {mg : Str → Option Value} {base : Heap}
abbrev sDrw : Stmt := topS 42
abbrev nDrw : List Str := ["_law_stream_here", "_law_house_here", "_law_nexts_here", "_law_places_here", "_law_one", "_law_other", "_law_row_here", "_law_rope_here"]
theorem scDrw : FnScope nDrw ["_law_stream_here", "_law_house_here", "_law_nexts_here"] (defScope sDrw) := ⟨rfl, rfl, rfl, by decide +kernel, rfl, by decide +kernel, by decide +kernel⟩
def spDrw : Sp := fun vs H Q _ => ∃ (D C Fd : Addr) (h : V) (b n : Int) (ps : List Pi) (d : Int → Int → Int) (kvs : List (List Key × V)), vs = [.ref D, h, .ref Fd] ∧ Dt [D] H h (houseD n (ps.map Pi.dat)) ∧ HouseOk n ps ∧ Tm n ps d ∧ (∀ p ∈ ps, p.l ≤ 10) ∧ 2 ≤ n ∧ Dq H D C b ∧ 0 ≤ b ∧ b ≤ 80000 ∧ H Fd = some (.dT kvs) ∧ Nxs H kvs (Adj ps) (okP n ps) 1000 ∧ (∀ p L, valV kvs (keyOf p) = some (.ref L) → L ≠ D) ∧
  ∀ (H' : Hp) (L x S t1 t2 : Addr) (l : Int) (ks : List (Int × Int)) (p q : Pl) (zs : List Pl), Keep [D] H H' → Dq H' D C (b + 320) → H' L = some (.lst [.ref x, .ref S]) → Dt [D] H' (.ref x) (ropeD l ks) → okR l ks → S ≠ D → H' S = some (.tup [.ref t2, .ref t1]) → Dt [D] H' (.ref t2) (tupI q) → Dt [D] H' (.ref t1) (tupI p) → okP n ps p → okP n ps q → Dp ps d p q = l → RowL n ps d p q zs → (∀ k ∈ ks, fits ps zs k) → Q (.ref L) H'
theorem ok_drw (h : Has K mg "_law_drawn" sDrw) (B : Blt mg) (CT : Can P w K mg base "_law_take" ["_law_stream_here", "_law_below"] 1 spTk) (CP : Can P w K mg base "_law_places" ["_law_house_here"] 1 spPls) (CR : Can P w K mg base "_law_row" ["_law_nexts_here", "_law_one", "_law_other"] 1 spLRo) (CO : Can P w K mg base "_law_rope" ["_law_stream_here", "_law_length"] 2 spRpe) (CK : Can P w K mg base "_law_knots_lie" ["_law_house_here", "_law_rope_here", "_law_row_here"] 2 spKLi) : Can P w K mg base "_law_drawn" ["_law_stream_here", "_law_house_here", "_law_nexts_here"] 3 spDrw := by
  obtain ⟨f, fd, F, g⟩ := h
  refine ⟨f, fd, F.ok (k := 2) scDrw (fun vs H Q E h => ?_) (fun cdv A outer s H vs Q E hr h => ?_), g, F.kp, F.binds fun _ _ _ _ _ _ us hl => match us, hl with | [_, _, _], _ => rfl⟩
  · obtain ⟨D, C, Fd, h, b, n, ps, d, kvs, rfl, _⟩ := h
    rfl
  · obtain ⟨D, C, Fd, h, b, n, ps, d, kvs, rfl, hh, hk, T, short, n2, dk, b0, hb, eF, nx, nl, q⟩ := h
    refine ⟨_, pss_cons (ps_set (i := 3) scDrw.nd rfl (by first | exact Or.inl rfl | exact Or.inr rfl) (pe_can CP (hr.mono (by decide)) (by rfl) (pa_cons (pv 1) pa_nil)))
      (pss_cons (ps_set (i := 4) scDrw.nd rfl (by first | exact Or.inl rfl | exact Or.inr rfl) (pe_ix ix_list (pv 3) (pe_can CT (hr.mono (by decide)) (by rfl) (pa_cons (pv 0) (pa_cons (pe_callB call_len_seq (by rfl) B.len_ PySem.boot_len (pa_cons (pv 3) pa_nil)) pa_nil))) (fun _ _ => rfl)))
      (pss_cons (ps_set (i := 5) scDrw.nd rfl (by first | exact Or.inl rfl | exact Or.inr rfl) (pe_ix ix_list (pv 3) (pe_can CT (hr.mono (by decide)) (by rfl) (pa_cons (pv 0) (pa_cons (pe_callB call_len_seq (by rfl) B.len_ PySem.boot_len (pa_cons (pv 3) pa_nil)) pa_nil))) (fun _ _ => rfl)))
      (pss_cons (ps_set (i := 6) scDrw.nd rfl (by first | exact Or.inl rfl | exact Or.inr rfl) (pe_can CR (hr.mono (by decide)) (by rfl) (pa_cons (pv 2) (pa_cons (pv 4) (pa_cons (pv 5) pa_nil)))))
      (pss_cons (ps_if (pt_cmpR op_lt (pe_callB call_len_seq (by rfl) B.len_ PySem.boot_len (pa_cons (pv 6) pa_nil)) pe_int (nomark _)) (pss_one (ps_set (i := 6) scDrw.nd rfl (by first | exact Or.inl rfl | exact Or.inr rfl) (pe_lst (pa_cons (pv 4) (pa_cons (pe_ix ix_list (pe_dget (hu_of hr) (pv 2) (pv 4) (fun _ _ => rfl)) pe_int (fun _ _ => rfl)) pa_nil))))) pss_nil)
      (pss_cons (ps_set (i := 7) scDrw.nd rfl (by first | exact Or.inl rfl | exact Or.inr rfl) (pe_can CO (hr.mono (by decide)) (by rfl) (pa_cons (pv 0) (pa_cons (pe_op op_sub (pe_callB call_len_seq (by rfl) B.len_ PySem.boot_len (pa_cons (pv 6) pa_nil)) pe_int) pa_nil))))
      (pss_cons (ps_if (pt_not (pt_val (pe_can CK (hr.mono (by decide)) (by rfl) (pa_cons (pv 1) (pa_cons (pv 7) (pa_cons (pv 6) pa_nil)))))) (pss_one (ps_set (i := 7) scDrw.nd rfl (by first | exact Or.inl rfl | exact Or.inr rfl) (pe_tup (pa_cons (pe_ix ix_tup (pv 7) pe_int (fun _ _ => rfl)) (pa_cons (pe_tup pa_nil) pa_nil))))) pss_nil)
      (pss_one (ps_ret (pe_lst (pa_cons (pv 7) (pa_cons (pe_tup (pa_cons (pe_ix ix_list (pv 6) (pe_un un_neg pe_int) (fun _ _ => rfl)) (pa_cons (pe_ix ix_list (pv 6) pe_int (fun _ _ => rfl)) pa_nil))) pa_nil))))))))))), ?_⟩
    have mD : D ∈ [D] := List.mem_singleton.mpr rfl
    refine ⟨h, rfl, h, n, ps, [D], rfl, hh.nil, hk, short, dk.tr, fun G1 Lp us k1 t1 fLp eLp lu du => ?_⟩
    have nLp : Lp ∉ [D] := fun m => (dk.nes fLp).1 (List.mem_singleton.mp m)
    have d1 := dk.keep k1
    have lz : us.length = (plsL n ps ps.length).length := by rw [du.len, List.length_map]
    have pos : 0 < us.length := by rw [lz]; exact List.length_pos_of_mem (pls_mem.mpr (show okP n ps [0] from ⟨by omega, by omega⟩))
    have pick : ∀ {X : Hp} {i : Int}, Keep [D] G1 X → 0 ≤ i → i < us.length → ∃ (t : Addr) (z : Pl), atI us i = some (.ref t) ∧ Dt [D] X (.ref t) (tupI z) ∧ okP n ps z := fun {X i} kX i0 i1 => by
      obtain ⟨z, gz⟩ : ∃ z, (plsL n ps ps.length)[i.toNat]? = some z := ⟨_, List.getElem?_eq_getElem (by omega)⟩
      obtain ⟨v, gv, dv⟩ := (du.keep kX).get i.toNat (d := tupI z) (by rw [List.getElem?_map, gz]; rfl)
      obtain ⟨t, rfl, _, _⟩ := tupI_at dv
      exact ⟨t, z, atI_of i0 gv, dv, pls_mem.mp (List.mem_of_getElem? gz)⟩
    refine ⟨.ref Lp, rfl, .ref D, rfl, .ref Lp, rfl, Lp, us, rfl, .inl (SqL.of eLp), D, C, b, (us.length : Int), rfl, by omega, by omega, d1, by omega, fun G2 i k2 d2 i0 i1 => ?_⟩
    obtain ⟨t1', p, gp, dp, okp⟩ := pick k2 i0 i1
    have eLp2 := k2 _ _ eLp nLp
    refine ⟨Lp, us, i, .ref t1', rfl, rfl, SqL.of eLp2, gp, ?_⟩
    refine ⟨.ref Lp, rfl, .ref D, rfl, .ref Lp, rfl, Lp, us, rfl, .inl (SqL.of eLp2), D, C, b + 1, (us.length : Int), rfl, by omega, by omega, d2, by omega, fun G3 j k3 d3 j0 j1 => ?_⟩
    obtain ⟨t2', q', gq, dq, okq⟩ := pick (k2.trans k3) j0 j1
    refine ⟨Lp, us, j, .ref t2', rfl, rfl, SqL.of (k3 _ _ eLp2 nLp), gq, ?_⟩
    have kH3 : Keep [D] H G3 := k1.of.trans (k2.trans k3)
    obtain ⟨wD, eD⟩ := dk.lst
    have nFD : Fd ∉ [D] := fun m => by rw [List.mem_singleton.mp m, eD] at eF; cases eF
    have eF3 := kH3 _ _ eF nFD
    have nx3 := nx.keepD nl eD kH3
    have dp3 := dp.keep k3
    refine (have rest : ∀ (L' : Addr) (M : Hp), (∃ (us : List V) (zs : List Pl) (q' : Pl), Keep [D] H M ∧ Dq M D C (b + 2) ∧ L' ≠ D ∧ M L' = some (.lst us) ∧ Dts [D] M us (zs.map tupI) ∧ RowL n ps d p q' zs ∧ okP n ps q' ∧ 1 ≤ Dp ps d p q') → _ := ?rest; ⟨.ref Fd, rfl, .ref t1', rfl, .ref t2', rfl, Fd, kvs, .ref t1', .ref t2', n, ps, d, p, q', rfl, .inl eF3, nx3, hk, T, short, dp3.nil, dq.nil, okp, okq, fun G4 L us zs k4 fL eL du rl => ⟨.ref L, rfl, L, us, rfl, .inl (SqL.of eL), (us.length : Int), 2, rfl, rfl, _, rfl, ite2 (fun c => ?small) (fun c => rest L G4 ?big)⟩⟩)
    case big =>
      have ld : us.length = zs.length := by rw [du.len, List.length_map]
      have c' : ¬ (us.length : Int) < 2 := fun z => c (decide_eq_true z)
      have d4 := d3.keep k4
      obtain ⟨w4, e4⟩ := d4.lst
      have := rl.1
      exact ⟨us, zs, q', kH3.trans k4.of, d4.mono (by omega), (d3.nes fL).1, eL, tupIs_off e4 du, rl, okq, by omega⟩
    case small =>
      obtain ⟨Lz, tz, qs, vz, eLz0, taz0, lz', ndq, hq⟩ := (nx3.keep k4).at_ p okp
      obtain ⟨q0, a0⟩ := has_next T n2 okp
      have m0 := (hq q0).mpr a0
      have ql : 0 < tz.length := by rw [taz0.1]; exact List.length_pos_of_mem m0
      have gx : (tz.map V.ref)[0]? = some (.ref (tz[0]'ql)) := by rw [List.getElem?_map, List.getElem?_eq_getElem ql]; rfl
      obtain ⟨Tv, v, ev, gTv, gv, eTv⟩ := taz0.at gx
      cases ev
      have av := (hq v).mp (List.mem_of_getElem? gv)
      have d4 := d3.keep k4
      obtain ⟨w4, e4⟩ := d4.lst
      have dp4 := dp3.keep k4.of
      obtain ⟨_, et1, nt1, et1'⟩ := tupI_at dp4
      cases et1
      have dg := DGet.t (k := keyOf p) (k4 _ _ eF3 List.not_mem_nil) (by rw [keyOf_kV]; exact et1')
      rw [vz] at dg
      refine ⟨.ref t1', rfl, .ref Fd, rfl, .ref t1', rfl, Fd, .ref Lz, rfl, dg, Lz, _, 0, _, rfl, rfl, SqL.of eLz0, atI_nat (j := 0) gx, show 2 ≤ sizeLine by decide, fun L2 nL2 => rest L2 _ ⟨[.ref t1', .ref (tz[0]'ql)], [p, v], v, ?_⟩⟩
      have kL := Keep.new (av := []) (o := .lst [.ref t1', .ref (tz[0]'ql)]) nL2
      obtain ⟨r1, r2⟩ := RowL.one T okp av
      exact ⟨kH3.trans (k4.of.trans kL.of), (d4.keep kL).mono (by omega), (d4.nes nL2).1, upd_same, .cons (dp4.keep kL.of) (.cons ((tupI_off e4 (TA.dt eTv)).keep kL.of) .nil), r1, ok_adj T av, by omega⟩
    case rest =>
      rintro L M ⟨us, zs, q', kM, dM, nL, eL, du, rl, okq', l1⟩
      have lz : us.length = zs.length := by rw [du.len, List.length_map]
      have few := rl.few hk short
      have rl1 := rl.1
      have nLD : L ∉ [D] := fun m => nL (List.mem_singleton.mp m)
      refine (have rest2 : ∀ (x' : Addr) (M' : Hp), (∃ ks : List (Int × Int), Keep [D] M M' ∧ Dq M' D C (b + 312) ∧ Dt [D] M' (.ref x') (ropeD ((us.length : Int) - 1) ks) ∧ okR ((us.length : Int) - 1) ks ∧ ∀ k ∈ ks, fits ps zs k) → _ := ?rest2; ⟨.ref D, rfl, .ref L, rfl, L, us, rfl, .inl (SqL.of eL), (us.length : Int), 1, rfl, rfl, D, C, b + 2, (us.length : Int) - 1, [D], rfl, by omega, by omega, dM, by omega, dM.tr, mD, fun G5 x ks k5 d5 dx okx => ⟨h, rfl, .ref x, rfl, .ref L, rfl, h, .ref x, L, n, (us.length : Int) - 1, ps, ks, us, zs, rfl, (hh.keep (kM.trans k5)).nil, hk, dx.nil, okx, k5 _ _ eL nLD, (du.keep k5).less (fun _ m => nomatch m), by omega, rl.ok, fun G6 c k6 hc => ⟨c, rfl, ite2 (fun e => ?bad) (fun e => rest2 x G6 ?good)⟩⟩⟩)
      case good =>
        have hc' : c = true := by cases c with | true => rfl | false => exact absurd rfl e
        exact ⟨ks, k5.trans k6.of, (d5.keep k6).mono (by omega), dx.keep k6.of, okx, hc.mp hc'⟩
      case bad =>
        obtain ⟨ra, ys, er, _, era, dra⟩ := tup_at (show Dt [D] G5 (.ref x) (.tuple [.int ((us.length : Int) - 1), .tuple (ks.map prD)]) from dx)
        cases er
        cases dra with
        | cons dl dra =>
          cases dl
          refine ⟨.ref x, rfl, x, _, 0, _, rfl, rfl, SqT.of (k6 _ _ era List.not_mem_nil), atI_nat (j := 0) rfl, show 0 ≤ sizeLine by decide, fun E0' nE => ?_⟩
          have d6 := d5.keep k6
          obtain ⟨q1, t1'', f1⟩ := tup_facts d6.tr (xs := []) (ds := []) .nil nE
          generalize upd G6 E0' (.tup []) = G7 at q1 t1'' f1 ⊢
          refine ⟨show 2 ≤ sizeLine by decide, fun x2 nx2 => rest2 x2 _ ⟨[], ?_⟩⟩
          obtain ⟨q2, t2'', f2⟩ := tup_facts t1'' (xs := [.int ((us.length : Int) - 1), .ref E0']) (ds := [.int ((us.length : Int) - 1), .tuple []]) (.cons (.int _) (.cons f1 .nil)) nx2
          exact ⟨k5.trans (k6.of.trans (q1.of.trans q2.of)), ((d6.keep q1).keep q2).mono (by omega), f2, ⟨by omega, by omega, trivial, (fun k m => (nomatch m)), Nat.zero_le _⟩, fun k m => (nomatch m)⟩
      case rest2 =>
        rintro x M' ⟨ks, k5, d5, dx, okx, hf⟩
        obtain ⟨g0, zs', ez⟩ := rl.ends T okp okq'
        have du5 := du.keep k5
        have eL5 := k5 _ _ eL nLD
        obtain ⟨v0, gv0, dv0⟩ := du5.get 0 (d := tupI p) (by rw [List.getElem?_map, g0]; rfl)
        obtain ⟨t1, rfl, _, _⟩ := tupI_at dv0
        obtain ⟨vl, gvl, dvl⟩ := du5.get zs'.length (d := tupI q') (by rw [List.getElem?_map, ez, List.getElem?_append_right (Nat.le_refl _), Nat.sub_self]; rfl)
        obtain ⟨t2, rfl, _, _⟩ := tupI_at dvl
        have lz' : us.length = zs'.length + 1 := by rw [lz, ez, List.length_append]; rfl
        have gl : atI us (-1) = some (.ref t2) := by
          rcases List.eq_nil_or_concat us with z | ⟨us', y, z⟩
          · rw [z] at lz'; cases lz'
          · rw [List.concat_eq_append] at z
            have l' : us'.length = zs'.length := by rw [z, List.length_append] at lz'; exact Nat.succ.inj lz'
            rw [z, ← l', List.getElem?_append_right (Nat.le_refl _), Nat.sub_self] at gvl
            cases gvl
            rw [z]; exact atI_last _ _
        refine ⟨.ref x, rfl, .ref L, rfl, 1, rfl, L, us, -1, .ref t2, rfl, rfl, SqL.of eL5, gl, .ref L, rfl, L, us, 0, .ref t1, rfl, rfl, SqL.of eL5, atI_nat (j := 0) gv0, show 2 ≤ sizeLine by decide, fun S nS => ?_⟩
        have kS := Keep.new (av := []) (o := .tup [.ref t2, .ref t1]) nS
        have eS : (upd M' S (.tup [.ref t2, .ref t1])) S = some (.tup [.ref t2, .ref t1]) := upd_same
        have nSD := (d5.nes nS).1
        have d6 := d5.keep kS
        generalize upd M' S (.tup [.ref t2, .ref t1]) = M2 at kS eS d6 ⊢
        refine ⟨show 2 ≤ sizeLine by decide, fun R nR => ?_⟩
        have kR := Keep.new (av := []) (o := .lst [.ref x, .ref S]) nR
        have kk := kS.trans kR
        exact q _ R x S t1 t2 _ ks p q' zs (kM.trans (k5.trans kk.of)) ((d6.keep kR).mono (by omega)) upd_same (dx.keep kk.of) okx nSD (kR _ _ eS List.not_mem_nil) (dvl.keep kk.of) (dv0.keep kk.of) okp okq' (by omega) rl hf
end
end Rw

namespace Rw
/-! ### what bars a leg: flaps and narrow places on the row that is gone along -/
def At (n : Int) (ps : List Pi) (d : Int → Int → Int) (p q z : Pl) (y : Int) : Prop := okP n ps z ∧ Dp ps d p z = y ∧ Dp ps d z q = Dp ps d p q - y
def ShB (ps : List Pi) (l i b e g : Int) (x : List Int) : Prop := ∃ a w : Int, (a, w) ∈ (pr ps i).fl ∧ ((b ≤ a ∧ a < e ∧ w = -1 ∧ x = [max 0 (g + a - b - l), 0, i, a]) ∨ (e ≤ a ∧ a < b ∧ w = 1 ∧ x = [max 0 (g + b - a - 1 - l), 0, i, a]))
def StB (na kk : List (Int × Int)) (b e g : Int) (x : List Int) : Prop := ∃ (a w : Int) (num : Nat) (ah sz : Int), (a, w) ∈ na ∧ (b ≤ a ∧ a ≤ e ∨ e ≤ a ∧ a ≤ b) ∧ kk[num]? = some (ah, sz) ∧ w < sz ∧ x = [g + ab b a - 1 - ah, 1, (num : Int)]
def PB (ps : List Pi) (l : Int) (kk : List (Int × Int)) (c : List Int) (g : Int) (x : List Int) : Prop := ∃ i b e : Int, c = [i, b, e] ∧ (ShB ps l i b e g x ∨ StB (pr ps i).na kk b e g x)
def BarF (n : Int) (ps : List Pi) (d : Int → Int → Int) (p q : Pl) (y i a : Int) : Prop := 0 ≤ i ∧ i < ps.length ∧ 0 ≤ a ∧ a < (pr ps i).l ∧ (((a, -1) ∈ (pr ps i).fl ∧ At n ps d p q (nm ps i a) y ∧ At n ps d p q (nm ps i (a + 1)) (y + 1)) ∨ ((a, 1) ∈ (pr ps i).fl ∧ At n ps d p q (nm ps i (a + 1)) y ∧ At n ps d p q (nm ps i a) (y + 1)))
def BarN (n : Int) (ps : List Pi) (d : Int → Int → Int) (p q : Pl) (y w : Int) : Prop := ∃ i a : Int, 0 ≤ i ∧ i < ps.length ∧ (a, w) ∈ (pr ps i).na ∧ At n ps d p q [i, a] y
def Bar (n : Int) (ps : List Pi) (d : Int → Int → Int) (p q : Pl) (l : Int) (kk : List (Int × Int)) (x : List Int) : Prop :=
  (∃ y i a : Int, BarF n ps d p q y i a ∧ x = [max 0 (y - l), 0, i, a]) ∨ ∃ (y w : Int) (num : Nat) (ah sz : Int), BarN n ps d p q y w ∧ kk[num]? = some (ah, sz) ∧ w < sz ∧ x = [y - 1 - ah, 1, (num : Int)]
theorem row_in {ps : List Pi} : ∀ {r : List (List Int)} {y : Int}, (∀ c ∈ r, PcOk ps c) → 0 ≤ y → y ≤ ptot r → r ≠ [] → ∃ (j : Nat) (i b e k : Int), r[j]? = some [i, b, e] ∧ 0 ≤ k ∧ k ≤ ab b e ∧ y = ptot (r.take j) + k
  | [], _, _, _, _, ne => absurd rfl ne
  | c :: r, y, hc, y0, y1, _ => by
    obtain ⟨i, b, e, rfl, _⟩ := hc c List.mem_cons_self
    have pl : plen [i, b, e] = ab b e := rfl
    have pt : ptot ([i, b, e] :: r) = plen [i, b, e] + ptot r := rfl
    by_cases h : y ≤ ab b e
    · exact ⟨0, i, b, e, y, rfl, y0, h, by show y = 0 + y; omega⟩
    · have ne : r ≠ [] := fun z => by
        subst z
        have : ptot [] = 0 := rfl
        omega
      obtain ⟨j, i', b', e', k, g, k0, k1, ey⟩ := row_in (r := r) (y := y - ab b e) (fun c m => hc c (List.mem_cons_of_mem _ m)) (by omega) (by omega) ne
      refine ⟨j + 1, i', b', e', k, g, k0, k1, ?_⟩
      show y = plen [i, b, e] + ptot (r.take j) + k
      omega
theorem row_edge {ps : List Pi} : ∀ {r : List (List Int)} {y : Int}, (∀ c ∈ r, PcOk ps c) → 0 ≤ y → y < ptot r → ∃ (j : Nat) (i b e k : Int), r[j]? = some [i, b, e] ∧ 0 ≤ k ∧ k + 1 ≤ ab b e ∧ y = ptot (r.take j) + k
  | [], y, _, y0, y1 => by
    have : ptot [] = 0 := rfl
    omega
  | c :: r, y, hc, y0, y1 => by
    obtain ⟨i, b, e, rfl, _⟩ := hc c List.mem_cons_self
    have pl : plen [i, b, e] = ab b e := rfl
    have pt : ptot ([i, b, e] :: r) = plen [i, b, e] + ptot r := rfl
    by_cases h : y + 1 ≤ ab b e
    · exact ⟨0, i, b, e, y, rfl, y0, h, by show y = 0 + y; omega⟩
    · obtain ⟨j, i', b', e', k, g, k0, k1, ey⟩ := row_edge (r := r) (y := y - ab b e) (fun c m => hc c (List.mem_cons_of_mem _ m)) (by omega) (by omega)
      refine ⟨j + 1, i', b', e', k, g, k0, k1, ?_⟩
      show y = plen [i, b, e] + ptot (r.take j) + k
      omega
theorem pat_up {i b e a : Int} (h1 : b ≤ a) (h2 : a ≤ e) : pat [i, b, e] (a - b) = a := by
  show (if b < e then b + (a - b) else b - (a - b)) = a
  split <;> omega
theorem pat_dn {i b e a : Int} (h1 : e ≤ a) (h2 : a ≤ b) : pat [i, b, e] (b - a) = a := by
  show (if b < e then b + (b - a) else b - (b - a)) = a
  split <;> omega
section
variable {n : Int} {ps : List Pi} {d : Int → Int → Int} (T : Tm n ps d)
include T
theorem At.same {p q z z' : Pl} {y : Int} (hp : okP n ps p) (hq : okP n ps q) (h : At n ps d p q z y) (h' : At n ps d p q z' y) : z = z' := same_pl T hp hq h.1 h'.1 h.2.1 h.2.2 h'.2.1 h'.2.2
theorem At.turn {p q z : Pl} {y : Int} (hp : okP n ps p) (hq : okP n ps q) (h : At n ps d p q z y) : At n ps d q p z (Dp ps d p q - y) := by
  have s1 := Dp_sym T hp hq
  have s2 := Dp_sym T hp h.1
  have s3 := Dp_sym T hq h.1
  obtain ⟨o, h1, h2⟩ := h
  exact ⟨o, by omega, by omega⟩
theorem chn_at {p q : Pl} {r : List (List Int)} (h : Chn ps p r q) : ∀ (hq : okP n ps q) (ht : ptot r = Dp ps d p q) {j : Nat} {i b e k : Int}, r[j]? = some [i, b, e] → 0 ≤ k → k ≤ ab b e → At n ps d p q (nm ps i (pat [i, b, e] k)) (ptot (r.take j) + k) := by
  induction h with
  | nil p => intro hq ht j i b e k g; cases g
  | @cons c r q ok h ih =>
    intro hq ht j i' b' e' k g k0 k1
    have okr := chn_ok T h hq
    have le := chn_le T h hq
    obtain ⟨i, b, e, rfl, h0, h1, b0, b1, e0, e1⟩ := ok
    have okp : okP n ps (nm ps i b) := ok_nm T h0 h1 b0 b1
    have ed : Dp ps d (nm ps i b) (nm ps i e) = ab b e := nm_dist T h0 h1 b0 b1 e0 e1
    have okr' : okP n ps (nm ps i e) := okr
    have le' : Dp ps d (nm ps i e) q ≤ ptot r := le
    have t := Dp_le T okp okr' hq
    have pt : ptot ([i, b, e] :: r) = ab b e + ptot r := rfl
    have ht' : ab b e + ptot r = Dp ps d (nm ps i b) q := ht
    have er : ptot r = Dp ps d (nm ps i e) q := by omega
    show At n ps d (nm ps i b) q _ _
    cases j with
    | zero =>
      cases g
      obtain ⟨z1, z2, z3⟩ := pat_in T h0 h1 b0 b1 e0 e1 k0 k1
      have t1 := Dp_le T z1 okr' hq
      have t2 := Dp_le T okp z1 hq
      refine ⟨z1, ?_, ?_⟩
      · rw [z2]; show k = 0 + k; omega
      · show _ = _ - (0 + k); omega
    | succ j =>
      obtain ⟨z1, z2, z3⟩ := ih hq er (j := j) g k0 k1
      have z2' : Dp ps d (nm ps i e) (nm ps i' (pat [i', b', e'] k)) = ptot (r.take j) + k := z2
      have z3' : Dp ps d (nm ps i' (pat [i', b', e'] k)) q = Dp ps d (nm ps i e) q - (ptot (r.take j) + k) := z3
      have t1 := Dp_le T okp okr' z1
      have t2 := Dp_le T okp z1 hq
      have ep : ptot (List.take (j + 1) ([i, b, e] :: r)) = ab b e + ptot (r.take j) := rfl
      refine ⟨z1, by omega, by omega⟩
theorem bar_iff (hk : HouseOk n ps) {p q : Pl} {r : List (List Int)} {l : Int} {kk : List (Int × Int)} {x : List Int} (ch : Chn ps p r q) (hp : okP n ps p) (hq : okP n ps q) (ht : ptot r = Dp ps d p q) (ne : r ≠ []) :
    (∃ (j : Nat) (c : List Int), r[j]? = some c ∧ PB ps l kk c (ptot (r.take j)) x) ↔ Bar n ps d p q l kk x := by
  have pcs := chn_pcs ch
  constructor
  · rintro ⟨j, c, gc, i, b, e, rfl, h⟩
    obtain ⟨i2, b2, e2, ec, i0, i1, b0, b1, e0, e1⟩ := pcs _ (List.mem_of_getElem? gc)
    cases ec
    have fit := (hk.ok _ (pr_mem i0 i1).1).fit
    have at' := fun {k : Int} (k0 : 0 ≤ k) (k1 : k ≤ ab b e) => chn_at T ch hq ht gc k0 k1
    rcases h with ⟨a, w, m, h⟩ | ⟨a, w, num, ah, sz, m, h, gk, lt, rfl⟩
    · have fi := fit.fin _ m
      rcases h with ⟨h1, h2, rfl, rfl⟩ | ⟨h1, h2, rfl, rfl⟩
      · have ae : ab b e = e - b := by unfold ab; split <;> omega
        have x1 := at' (k := a - b) (by omega) (by omega)
        have x2 := at' (k := a + 1 - b) (by omega) (by omega)
        rw [pat_up h1 (by omega)] at x1
        rw [pat_up (by omega) (by omega)] at x2
        exact .inl ⟨_, i, a, ⟨i0, i1, by omega, by omega, .inl ⟨m, x1, by rw [show ptot (r.take j) + (a - b) + 1 = ptot (r.take j) + (a + 1 - b) by omega]; exact x2⟩⟩, by rw [show ptot (r.take j) + (a - b) - l = ptot (r.take j) + a - b - l by omega]⟩
      · have ae : ab b e = b - e := by unfold ab; split <;> omega
        have x1 := at' (k := b - (a + 1)) (by omega) (by omega)
        have x2 := at' (k := b - a) (by omega) (by omega)
        rw [pat_dn (by omega) (by omega)] at x1
        rw [pat_dn (by omega) (by omega)] at x2
        exact .inl ⟨_, i, a, ⟨i0, i1, by omega, by omega, .inr ⟨m, x1, by rw [show ptot (r.take j) + (b - (a + 1)) + 1 = ptot (r.take j) + (b - a) by omega]; exact x2⟩⟩, by rw [show ptot (r.take j) + (b - (a + 1)) - l = ptot (r.take j) + b - a - 1 - l by omega]⟩
    · have fi := fit.nin _ m
      have em : nm ps i a = [i, a] := nm_mid (by omega) (by omega)
      refine .inr ⟨_, w, num, ah, sz, ⟨i, a, i0, i1, m, ?_⟩, gk, lt, rfl⟩
      rcases h with ⟨h1, h2⟩ | ⟨h1, h2⟩
      · have x1 := at' (k := a - b) (by omega) (by unfold ab; split <;> omega)
        rw [pat_up h1 h2, em] at x1
        rw [show ab b a = a - b by unfold ab; split <;> omega]; exact x1
      · have x1 := at' (k := b - a) (by omega) (by unfold ab; split <;> omega)
        rw [pat_dn h1 h2, em] at x1
        rw [show ab b a = b - a by unfold ab; split <;> omega]; exact x1
  · have inn : ∀ {z : Pl} {y : Int}, At n ps d p q z y → 0 ≤ y ∧ y ≤ ptot r := fun {z y} h => by
      have h1 := Dp_nn T hp h.1
      have h2 := Dp_nn T h.1 hq
      obtain ⟨_, e1, e2⟩ := h
      exact ⟨by omega, by omega⟩
    rintro (⟨y, i, a, ⟨i0, i1, a0, a1, h⟩, rfl⟩ | ⟨y, w, num, ah, sz, ⟨i, a, i0, i1, m, h⟩, gk, lt, rfl⟩)
    · have edge : ∀ {u v : Pl}, At n ps d p q u y → At n ps d p q v (y + 1) → ∃ (j : Nat) (i b e k : Int), r[j]? = some [i, b, e] ∧ 0 ≤ k ∧ k + 1 ≤ ab b e ∧ y = ptot (r.take j) + k ∧ u = nm ps i (pat [i, b, e] k) ∧ v = nm ps i (pat [i, b, e] (k + 1)) := fun {u v} hu hv => by
        obtain ⟨j, i', b', e', k, g, k0, k1, ey⟩ := row_edge pcs (inn hu).1 (by have := (inn hv).2; omega)
        have x1 := chn_at T ch hq ht g k0 (by omega)
        have x2 := chn_at T ch hq ht g (k := k + 1) (by omega) k1
        rw [← ey] at x1
        rw [show ptot (r.take j) + (k + 1) = y + 1 by omega] at x2
        exact ⟨j, i', b', e', k, g, k0, k1, ey, hu.same T hp hq x1, hv.same T hp hq x2⟩
      rcases h with ⟨m, h1, h2⟩ | ⟨m, h1, h2⟩
      · obtain ⟨j, i', b', e', k, g, k0, k1, ey, eu, ev⟩ := edge h1 h2
        obtain ⟨i2, b2, e2, ec, j0, j1, b0, b1, e0, e1⟩ := pcs _ (List.mem_of_getElem? g)
        cases ec
        refine ⟨j, _, g, i', b', e', rfl, .inl ⟨a, -1, ?_⟩⟩
        by_cases c : b' < e'
        · have p1 : pat [i', b', e'] k = b' + k := if_pos c
          have p2 : pat [i', b', e'] (k + 1) = b' + k + 1 := (show pat [i', b', e'] (k + 1) = b' + (k + 1) from if_pos c).trans (by omega)
          have ae : ab b' e' = e' - b' := if_pos c
          rw [p1] at eu; rw [p2] at ev
          obtain ⟨ei, ea⟩ := step_one T i0 i1 a0 a1 j0 j1 (by omega) (by omega) (.inl ⟨eu, ev⟩)
          subst ei
          exact ⟨m, .inl ⟨by omega, by omega, rfl, by rw [ey, show ptot (r.take j) + k - l = ptot (r.take j) + a - b' - l by omega]⟩⟩
        · have p1 : pat [i', b', e'] k = (b' - k - 1) + 1 := (show pat [i', b', e'] k = b' - k from if_neg c).trans (by omega)
          have p2 : pat [i', b', e'] (k + 1) = b' - k - 1 := (show pat [i', b', e'] (k + 1) = b' - (k + 1) from if_neg c).trans (by omega)
          have ae : ab b' e' = b' - e' := if_neg c
          rw [p1] at eu; rw [p2] at ev
          obtain ⟨ei, ea⟩ := step_one T i0 i1 a0 a1 j0 j1 (by omega) (by omega) (.inr ⟨eu, ev⟩)
          subst ei
          rw [ea] at eu
          exact absurd eu (nm_next T i0 i1 (by omega) (by omega))
      · obtain ⟨j, i', b', e', k, g, k0, k1, ey, eu, ev⟩ := edge h1 h2
        obtain ⟨i2, b2, e2, ec, j0, j1, b0, b1, e0, e1⟩ := pcs _ (List.mem_of_getElem? g)
        cases ec
        refine ⟨j, _, g, i', b', e', rfl, .inl ⟨a, 1, ?_⟩⟩
        by_cases c : b' < e'
        · have p1 : pat [i', b', e'] k = b' + k := if_pos c
          have p2 : pat [i', b', e'] (k + 1) = b' + k + 1 := (show pat [i', b', e'] (k + 1) = b' + (k + 1) from if_pos c).trans (by omega)
          have ae : ab b' e' = e' - b' := if_pos c
          rw [p1] at eu; rw [p2] at ev
          obtain ⟨ei, ea⟩ := step_one T i0 i1 a0 a1 j0 j1 (by omega) (by omega) (.inr ⟨ev, eu⟩)
          subst ei
          rw [ea] at eu
          exact absurd eu.symm (nm_next T i0 i1 (by omega) (by omega))
        · have p1 : pat [i', b', e'] k = (b' - k - 1) + 1 := (show pat [i', b', e'] k = b' - k from if_neg c).trans (by omega)
          have p2 : pat [i', b', e'] (k + 1) = b' - k - 1 := (show pat [i', b', e'] (k + 1) = b' - (k + 1) from if_neg c).trans (by omega)
          have ae : ab b' e' = b' - e' := if_neg c
          rw [p1] at eu; rw [p2] at ev
          obtain ⟨ei, ea⟩ := step_one T i0 i1 a0 a1 j0 j1 (by omega) (by omega) (.inl ⟨ev, eu⟩)
          subst ei
          exact ⟨m, .inr ⟨by omega, by omega, rfl, by rw [ey, show ptot (r.take j) + k - l = ptot (r.take j) + b' - a - 1 - l by omega]⟩⟩
    · obtain ⟨j, i', b', e', k, g, k0, k1, ey⟩ := row_in pcs (inn h).1 (inn h).2 ne
      have x1 := chn_at T ch hq ht g k0 k1
      rw [← ey] at x1
      have ez := h.same T hp hq x1
      obtain ⟨ei, ea, _⟩ := nm_two ez.symm
      subst ei
      refine ⟨j, _, g, i', b', e', rfl, .inr ⟨a, w, num, ah, sz, m, ?_, gk, lt, ?_⟩⟩
      · have ep : pat [i', b', e'] k = if b' < e' then b' + k else b' - k := rfl
        rw [ea] at ep
        unfold ab at k1
        split at ep <;> split at k1 <;> omega
      · have ep : pat [i', b', e'] k = if b' < e' then b' + k else b' - k := rfl
        rw [ea] at ep
        have : ab b' a = k := by
          unfold ab at k1 ⊢
          split at ep <;> split at k1 <;> split <;> omega
        rw [this, ← ey]
end
end Rw

namespace Rw
open PySem PySem.Spec PyProof.Rows L2
theorem pi_two {av : List Addr} {H : Hp} {xp : List V} {ps : List Pi} (hs : Dts av H xp (ps.map Pi.dat)) {i : Int} (h0 : 0 ≤ i) (h1 : i < ps.length) :
    ∃ (pa T1 T2 : Addr), atI xp i = some (.ref pa) ∧ H pa = some (.tup [.int (pr ps i).x, .int (pr ps i).y, .int (pr ps i).l, .ref T1, .ref T2]) ∧ pa ∉ av ∧ Dt av H (.ref T1) (.tuple ((pr ps i).na.map prD)) ∧ Dt av H (.ref T2) (.tuple ((pr ps i).fl.map prD)) := by
  obtain ⟨v, ev, dv⟩ := hs.get i.toNat (d := (pr ps i).dat) (by rw [List.getElem?_map, (pr_mem h0 h1).2]; rfl)
  have ep : (pr ps i).dat = .tuple [.int (pr ps i).x, .int (pr ps i).y, .int (pr ps i).l, .tuple ((pr ps i).na.map prD), .tuple ((pr ps i).fl.map prD)] := rfl
  rw [ep] at dv
  cases dv with
  | tup na ea da =>
    cases da with
    | cons d1 da => cases d1; cases da with
      | cons d2 da => cases d2; cases da with
        | cons d3 da => cases d3; cases da with
          | cons d4 da => cases da with
            | cons d5 da =>
              cases da
              obtain ⟨T1, _, rfl, _, _, _⟩ := tup_at d4
              obtain ⟨T2, _, rfl, _, _, _⟩ := tup_at d5
              exact ⟨_, T1, T2, atI_of h0 ev, ea, na, d4, d5⟩
section
variable {P : Program} {w : World} {K : PySem.W.Frag} {mg : Str → Option Value} {base : Heap}
abbrev sNar : Stmt := topS 30
abbrev nNar : List Str := ["plan", "place", "size", "narrows", "at", "width"]
theorem scNar : FnScope nNar ["plan", "place", "size"] (defScope sNar) := ⟨rfl, rfl, rfl, by decide +kernel, rfl, by decide +kernel, by decide +kernel⟩
def spNar (C : Addr) : Sp := fun vs H Q _ => ∃ (a : Addr) (v : V) (n s : Int) (ps : List Pi) (d : Int → Int → Int) (z : Pl), vs = [.ref a, v, .int s] ∧ PlanAt C [] H a n ps d ∧ HouseOk n ps ∧ Dt [] H v (tupI z) ∧ okP n ps z ∧
  ∀ (H' : Hp) (c : Bool), Keep [] H H' → (c = true ↔ ∃ (i b w : Int), z = [i, b] ∧ (b, w) ∈ (pr ps i).na ∧ w < s) → Q (.bl c) H'
theorem ok_nar (h : Has K mg "is_narrower" sNar) {C : Addr} (B : Blt mg) (X : PlanTxt K C) : Can P w K mg base "is_narrower" ["plan", "place", "size"] 1 (spNar C) := by
  obtain ⟨f, fd, F, g⟩ := h
  refine ⟨f, fd, F.ok (k := 0) scNar (fun vs H Q E h => ?_) (fun cdv A outer s H vs Q E hr h => ?_), g, F.kp, F.binds fun _ _ _ _ _ _ us hl => match us, hl with | [_, _, _], _ => rfl⟩
  · obtain ⟨a, v, n, s, ps, d, z, rfl, _⟩ := h
    rfl
  · obtain ⟨a, v, n, s, ps, d, z, rfl, pl, hk, dz, okz, q⟩ := h
    refine ⟨_, pss_cons (ps_if (pt_cmpR op_eq (pe_callB call_len_seq (by rfl) B.len_ PySem.boot_len (pa_cons (pv 1) pa_nil)) pe_int (nomark _)) (pss_one (ps_ret pe_bl)) pss_nil)
      (pss_cons (ps_set (i := 3) scNar.nd rfl (by first | exact Or.inl rfl | exact Or.inr rfl) (pe_ix ix_tup (pe_ix ix_tup (pe_fld (pv 0) rfl) (pe_ix ix_tup (pv 1) pe_int (fun _ _ => rfl)) (fun _ _ => rfl)) pe_int (fun _ _ => rfl)))
      (pss_one (ps_ret (pe_callB (cr_any rfl) (by rfl) B.any_ (by decide +kernel) (pa_cons (pe_lc (own := [("at", 4), ("width", 5)]) (tt := tYes) rfl scNar.nd (pi_tup (pv 3)) (blkOk_by (N := nNar) (sc := defScope sNar) (by decide +kernel)) (fun _ _ _ _ _ => (pg_tupK (K := K) (n := 2) rfl (by rfl) (pgs_cons (pg_name (i := 4) scNar.nd rfl (by first | exact Or.inl rfl | exact Or.inr rfl)) (pgs_cons (pg_name (i := 5) scNar.nd rfl (by first | exact Or.inl rfl | exact Or.inr rfl)) pgs_nil)))) (fun _ _ _ _ _ => pts_nil) (fun _ _ _ _ _ => (pe_and (pe_cmpR op_eq (pv 4) (pe_ix (ix_tupK (K := K) rfl) (pv 1) pe_int (fun _ _ => rfl)) (nomark _)) (pe_one (pe_cmpR op_lt (pv 5) (pv 2) (nomark _)))))) pa_nil))))), ?_⟩
    obtain ⟨za, rfl, _, eza⟩ := tupI_at dz
    rcases ok_cases okz with ⟨r, rfl, _, _⟩ | ⟨i, b, rfl, i0, i1, b0, b1⟩
    · refine ⟨.ref za, rfl, za, _, rfl, .inr (SqT.of eza), rfl, _, rfl, ite2 (fun c => ?_) (fun c => absurd (by simp) c)⟩
      exact q _ _ (Keep.refl _ _) ⟨fun h => Bool.noConfusion h, fun ⟨_, _, _, e, _⟩ => by cases e⟩
    obtain ⟨dx, hb, pp, dl, gl, tl, xp, ds, gs, ws, a1', a2, a3, a4, a5, a6, a7, _⟩ := pl
    obtain ⟨pa, T1, T2, ga, epa, _, dT1, _⟩ := pi_two a7 i0 i1
    refine ⟨.ref za, rfl, za, _, rfl, .inr (SqT.of eza), rfl, _, rfl, ite2 (fun c => absurd c (by simp)) (fun c => ?_)⟩
    refine ⟨.ref a, rfl, a, C, dx, _, .ref pp, rfl, a2, X.cl, X.nP, pf_pipes .., .ref za, rfl, za, _, 0, .int i, rfl, rfl, SqT.of eza, atI_nat (j := 0) rfl, pp, xp, i, .ref pa, rfl, rfl, SqT.of a6, ga, pa, [.int (pr ps i).x, .int (pr ps i).y, .int (pr ps i).l, .ref T1, .ref T2], 3, .ref T1, rfl, rfl, SqT.of epa, atI_nat (j := 3) rfl, ?_⟩
    obtain ⟨T, ku, eT', _, eT, dku⟩ := tup_at dT1
    cases eT'
    have lku : ku.length = (pr ps i).na.length := by rw [dku.len, List.length_map]
    refine ⟨.ref T1, rfl, T1, rfl, ⟨_, SqT.of eT⟩, fun W nW => ?_⟩
    refine lc_tup (K := K) (a := T1) (xs := ku) (fun t M => Keep [] H M ∧ ∃ bs : List Bool, M W = some (.lst (bs.map V.bl)) ∧ bs.length ≤ t ∧ (bs.any id = true ↔ ∃ w, (b, w) ∈ (pr ps i).na.take t ∧ w < s))
      ⟨Keep.new nW, [], upd_same, Nat.le_refl _, ⟨fun h => Bool.noConfusion h, fun ⟨_, m, _⟩ => absurd m (by rw [List.take_zero]; exact List.not_mem_nil)⟩⟩ (fun t M _ z => SqT.of (z.1 _ _ eT List.not_mem_nil)) (fun t y M gy z => ?_) (fun M z => ?_)
    · obtain ⟨kM, bs, eW, lb, hb⟩ := z
      obtain ⟨dd, gd, dy⟩ := (dku.keep kM).getv t gy
      rw [List.getElem?_map] at gd
      obtain ⟨k, gk, rfl⟩ := Option.map_eq_some_iff.mp gd
      obtain ⟨bb, ys, rfl, _, ebb, dbb⟩ := tup_at (show Dt [] M y (.tuple [.int k.1, .int k.2]) from dy)
      have hys : ys = [.int k.1, .int k.2] := Dts.unints (ns := [k.1, k.2]) dbb
      subst hys
      refine ⟨bb, _, rfl, SqT.of ebb, rfl, _, _, rfl, _, [], rfl, rfl, ?_⟩
      refine ⟨rfl, .int k.1, rfl, .ref za, rfl, za, _, 1, .int b, rfl, rfl, SqT.of (kM _ _ eza List.not_mem_nil), atI_nat (j := 1) rfl, rfl, ?_⟩
      have tk : ∀ x, x ∈ (pr ps i).na.take (t + 1) ↔ x ∈ (pr ps i).na.take t ∨ x = k := fun x => by
        rw [List.take_add_one, gk, List.mem_append]
        exact or_congr_right (by simp)
      have few : bs.length < sizeLine := by
        have h1 := (List.getElem?_eq_some_iff.mp gk).1
        have h2 := (hk.ok _ (pr_mem i0 i1).1).fit.nle
        exact Nat.lt_of_le_of_lt (show bs.length ≤ 1000 by omega) (by decide)
      have nxt : ∀ c : Bool, (c = true ↔ k.1 = b ∧ k.2 < s) → ((bs ++ [c]).any id = true ↔ ∃ w, (b, w) ∈ (pr ps i).na.take (t + 1) ∧ w < s) := fun c hc => by
        rw [List.any_append, Bool.or_eq_true, hb]
        constructor
        · rintro (⟨w, m, h⟩ | h)
          · exact ⟨w, (tk _).mpr (.inl m), h⟩
          · have := hc.mp (by simpa using h)
            exact ⟨k.2, (tk _).mpr (.inr (by rw [← this.1])), this.2⟩
        · rintro ⟨w, m, h⟩
          rcases (tk _).mp m with m | e
          · exact .inl ⟨w, m, h⟩
          · refine .inr ?_
            have : c = true := hc.mpr (by rw [← e]; exact ⟨rfl, h⟩)
            rw [this]; rfl
      refine ⟨_, rfl, ite2 (fun c => ?_) (fun c => ?_)⟩
      · have kb : k.1 = b := by have := of_decide_eq_true c; cases this; rfl
        exact ⟨.int k.2, rfl, .int s, rfl, k.2, s, rfl, rfl, _, eW, by rw [List.length_map]; exact few, kM.upd nW, bs ++ [decide (k.2 < s)], by rw [upd_same, List.map_append]; rfl, by rw [List.length_append]; exact Nat.add_le_add_right lb 1, nxt _ ⟨fun h => ⟨kb, of_decide_eq_true h⟩, fun h => decide_eq_true h.2⟩⟩
      · have kb : ¬ k.1 = b := fun e => c (by rw [e]; exact decide_eq_true rfl)
        exact ⟨_, eW, by rw [List.length_map]; exact few, kM.upd nW, bs ++ [false], by rw [upd_same, List.map_append]; rfl, by rw [List.length_append]; exact Nat.add_le_add_right lb 1, nxt _ ⟨fun h => Bool.noConfusion h, fun h => absurd h.1 kb⟩⟩
    · obtain ⟨kM, bs, eW, lb, hb⟩ := z
      rw [lku, List.take_length] at hb
      refine ⟨W, bs, rfl, SqL.of eW, q _ _ kM (hb.trans ⟨fun ⟨w, m, h⟩ => ⟨i, b, w, rfl, m, h⟩, fun ⟨i', b', w, e, m, h⟩ => ?_⟩)⟩
      cases e
      exact ⟨w, m, h⟩
abbrev sKFt : Stmt := topS 29
abbrev nKFt : List Str := ["plan", "rope", "pieces", "behind", "size"]
theorem scKFt : FnScope nKFt ["plan", "rope", "pieces"] (defScope sKFt) := ⟨rfl, rfl, rfl, by decide +kernel, rfl, by decide +kernel, by decide +kernel⟩
def KFits (ps : List Pi) (pcs : List (List Int)) (k : Int × Int) : Prop := ∀ i b w, along ps pcs k.1 = [i, b] → (b, w) ∈ (pr ps i).na → k.2 ≤ w
def spKFt (C : Addr) : Sp := fun vs H Q _ => ∃ (a Lp : Addr) (v : V) (n l : Int) (ps : List Pi) (d : Int → Int → Int) (ks : List (Int × Int)) (us : List V) (pcs : List (List Int)), vs = [.ref a, v, .ref Lp] ∧ PlanAt C [] H a n ps d ∧ HouseOk n ps ∧ Dt [] H v (ropeD l ks) ∧ ks.length ≤ 1000 ∧ H Lp = some (.lst us) ∧ Dts [] H us (pcs.map tupI) ∧ pcs ≠ [] ∧ pcs.length ≤ 1000 ∧ (∀ c ∈ pcs, PcOk ps c) ∧ (∀ k ∈ ks, okP n ps (along ps pcs k.1)) ∧
  ∀ (H' : Hp) (c : Bool), Keep [] H H' → (c = true ↔ ∀ k ∈ ks, KFits ps pcs k) → Q (.bl c) H'
theorem ok_kFt (h : Has K mg "knots_fit" sKFt) {C : Addr} (CN : Can P w K mg base "is_narrower" ["plan", "place", "size"] 1 (spNar C)) (CP : Can P w K mg base "place_along" ["plan", "pieces", "steps"] 2 (spPAl C)) : Can P w K mg base "knots_fit" ["plan", "rope", "pieces"] 3 (spKFt C) := by
  obtain ⟨f, fd, F, g⟩ := h
  refine ⟨f, fd, F.ok (k := 2) scKFt (fun vs H Q E h => ?_) (fun cdv A outer s H vs Q E hr h => ?_), g, F.kp, F.binds fun _ _ _ _ _ _ us hl => match us, hl with | [_, _, _], _ => rfl⟩
  · obtain ⟨a, Lp, v, n, l, ps, d, ks, us, pcs, rfl, _⟩ := h
    rfl
  · obtain ⟨a, Lp, v, n, l, ps, d, ks, us, pcs, rfl, pl, hk, dr, k1000, eLp, du, pne, p1000, okc, oka, q⟩ := h
    refine ⟨_, pss_cons (ps_for PassesOwn.never rfl (pi_tup (pe_ix ix_tup (pv 1) pe_int (fun _ _ => rfl))) (pg_tup (by rfl) (pgs_cons (pg_name (i := 3) scKFt.nd rfl (by first | exact Or.inl rfl | exact Or.inr rfl)) (pgs_cons (pg_name (i := 4) scKFt.nd rfl (by first | exact Or.inl rfl | exact Or.inr rfl)) pgs_nil)))
      (pss_one (ps_if (pt_val (pe_can CN (hr.mono (by decide)) (by rfl) (pa_cons (pv 0) (pa_cons (pe_can CP (hr.mono (by decide)) (by rfl) (pa_cons (pv 0) (pa_cons (pv 2) (pa_cons (pv 3) pa_nil)))) (pa_cons (pv 4) pa_nil))))) (pss_one (ps_ret pe_bl)) pss_nil)))
      (pss_one (ps_ret pe_bl)), ?_⟩
    obtain ⟨ra, ys, rfl, _, era, dra⟩ := tup_at (show Dt [] H v (.tuple [.int l, .tuple (ks.map prD)]) from dr)
    cases dra with
    | cons dl dra => cases dra with
      | cons dk dra =>
        cases dl
        cases dra
        obtain ⟨T, ku, rfl, _, eT, dku⟩ := tup_at dk
        have lku : ku.length = ks.length := by rw [dku.len, List.length_map]
        refine ⟨.ref ra, rfl, ra, _, 1, .ref T, rfl, rfl, SqT.of era, atI_nat (j := 1) rfl, T, rfl, ⟨_, SqT.of eT⟩, for_tup (K := K) (a := T) (xs := ku) (fun t σ M => ∃ s3 s4 : Option V, σ = [some (.ref a), some (.ref ra), some (.ref Lp), s3, s4] ∧ Keep [] H M ∧ ∀ k ∈ ks.take t, KFits ps pcs k)
          ⟨_, _, rfl, Keep.refl _ _, fun k m => absurd m (by rw [List.take_zero]; exact List.not_mem_nil)⟩ (fun t σ M _ z => ?_) (fun t y σ M gy z => ?_) (fun σ M z => ?_)⟩
        · obtain ⟨_, _, _, kM, _⟩ := z
          exact SqT.of (kM _ _ eT List.not_mem_nil)
        · obtain ⟨s3, s4, rfl, kM, hb⟩ := z
          obtain ⟨dd, gd, dy⟩ := (dku.keep kM).getv t gy
          rw [List.getElem?_map] at gd
          obtain ⟨k, gk, rfl⟩ := Option.map_eq_some_iff.mp gd
          obtain ⟨bb, ys, rfl, _, ebb, dbb⟩ := tup_at (show Dt [] M y (.tuple [.int k.1, .int k.2]) from dy)
          have hys : ys = [.int k.1, .int k.2] := Dts.unints (ns := [k.1, k.2]) dbb
          subst hys
          have mk := List.mem_of_getElem? gk
          have tk : ∀ x, x ∈ ks.take (t + 1) ↔ x ∈ ks.take t ∨ x = k := fun x => by
            rw [List.take_add_one, gk, List.mem_append]
            exact or_congr_right (by simp)
          refine ⟨bb, _, rfl, SqT.of ebb, rfl, _, _, rfl, _, [], rfl, rfl, ?_⟩
          refine ⟨.ref a, rfl, .ref a, rfl, .ref Lp, rfl, .int k.1, rfl, a, Lp, n, k.1, ps, d, us, pcs, [], rfl, pl.keep kM, kM _ _ eLp List.not_mem_nil, du.keep kM, pne, p1000, okc, fun _ m => absurd m List.not_mem_nil, fun G v kG _ dv => ⟨.int k.2, rfl, a, v, n, k.2, ps, d, along ps pcs k.1, rfl, pl.keep (kM.trans kG), hk, dv, oka k mk, fun G2 c kG2 hc => ⟨_, rfl, ite2 (fun c1 => ?_) (fun c1 => ?_)⟩⟩⟩
          · refine q _ _ ((kM.trans kG).trans kG2) ⟨fun h => Bool.noConfusion h, fun h => ?_⟩
            obtain ⟨i, b, w, e, m, lt⟩ := hc.mp c1
            have := h k mk i b w e m
            omega
          · refine ⟨_, _, rfl, (kM.trans kG).trans kG2, fun x m => ?_⟩
            rcases (tk x).mp m with m | rfl
            · exact hb x m
            · exact fun i b w e m => Int.not_lt.mp fun lt => c1 (hc.mpr ⟨i, b, w, e, m, lt⟩)
        · obtain ⟨s3, s4, rfl, kM, hb⟩ := z
          rw [lku, List.take_length] at hb
          exact q _ _ kM ⟨fun _ => hb, fun _ => rfl⟩
end
end Rw

namespace Rw
open PySem PySem.Spec PyProof.Rows L2
theorem pl_of {n : Int} {ps : List Pi} {d : PyData} (h : isPlace n (ps.map Pi.dat) d = true) : ∃ z, d = tupI z ∧ okP n ps z := by
  have wi : ∀ {d : PyData} {lo hi : Int}, within d lo hi = true → ∃ i, d = .int i ∧ lo ≤ i ∧ i ≤ hi := fun {d lo hi} h => by
    cases d with
    | int i =>
      have h' : (decide (lo ≤ i) && decide (i ≤ hi)) = true := h
      rw [Bool.and_eq_true] at h'
      exact ⟨i, rfl, of_decide_eq_true h'.1, of_decide_eq_true h'.2⟩
    | none => cases h
    | bool _ => cases h
    | str _ => cases h
    | list _ => cases h
    | tuple _ => cases h
    | dict _ => cases h
  unfold isPlace at h
  split at h
  · obtain ⟨i, rfl, i0, i1⟩ := wi h
    exact ⟨[i], rfl, i0, by omega⟩
  · rename_i p y
    rw [Bool.and_eq_true] at h
    obtain ⟨i, e, i0, i1⟩ := wi h.1
    cases e
    obtain ⟨a, rfl, a0, a1⟩ := wi h.2
    rw [List.length_map] at i1
    have el : lenOf ((ps.map Pi.dat).getD p.toNat .none) = (pr ps p).l := by
      rw [List.getD_eq_getElem?_getD, List.getElem?_map, (pr_mem i0 (by omega)).2]; rfl
    rw [el] at a1
    exact ⟨[p, a], rfl, i0, by omega, a0, a1⟩
  · cases h
theorem two_of {dl : PyData} (h : tupOf dl 2 = true) : ∃ a b, dl = .tuple [a, b] := by
  unfold tupOf at h
  split at h
  · rename_i xs
    have h2 := of_decide_eq_true h
    match xs, h2 with
    | [a, b], _ => exact ⟨a, b, rfl⟩
    | [], h2 => exact absurd h2 (by decide)
    | [_], h2 => exact absurd h2 (by show ¬ (((0 + 1 : Nat) : Int) = 2); decide)
    | _ :: _ :: _ :: r, h2 => simp only [List.length_cons] at h2; omega
  · cases h
theorem along0 {ps : List Pi} : ∀ {p q : Pl} {r : List (List Int)}, Chn ps p r q → r ≠ [] → along ps r 0 = p
  | _, _, _, .nil _, h => absurd rfl h
  | _, _, _, .cons (c := c) (r := r) _ _, _ => by
    have e : nm ps (c.getD 0 0) (pat c 0) = beg ps c := by
      unfold beg pat
      split
      · rw [Int.add_zero]
      · rw [Int.sub_zero]
    have p0 : 0 ≤ plen c := by unfold plen ab; split <;> omega
    cases r with
    | nil => exact e
    | cons _ _ => show (if (0 : Int) ≤ plen c then _ else _) = _; rw [if_pos p0]; exact e
def StandOf (n : Int) (ps : List Pi) (d : Int → Int → Int) (l : Int) (ks : List (Int × Int)) (dl : PyData) : Prop := ∃ p q, dl = .tuple [tupI p, tupI q] ∧ okP n ps p ∧ okP n ps q ∧ Dp ps d p q = l ∧ ∀ k ∈ ks, ∀ z, At n ps d q p z k.1 → ∀ i b w, z = [i, b] → (b, w) ∈ (pr ps i).na → k.2 ≤ w
section
variable {P : Program} {w : World} {K : PySem.W.Frag} {mg : Str → Option Value} {base : Heap}
abbrev sStI : Stmt := topS 28
abbrev nStI : List Str := ["plan", "rope", "thing", "tail", "head"]
theorem scStI : FnScope nStI ["plan", "rope", "thing"] (defScope sStI) := ⟨rfl, rfl, rfl, by decide +kernel, rfl, by decide +kernel, by decide +kernel⟩
def spStI (C : Addr) : Sp := fun vs H Q _ => ∃ (a : Addr) (v tv : V) (n l : Int) (ps : List Pi) (d : Int → Int → Int) (ks : List (Int × Int)) (dl : PyData), vs = [.ref a, v, tv] ∧ PlanAt C [] H a n ps d ∧ HouseOk n ps ∧ Tm n ps d ∧ Dt [] H v (ropeD l ks) ∧ okR l ks ∧ Dt [] H tv dl ∧
  ∀ (H' : Hp) (c : Bool), Keep [] H H' → (c = true ↔ StandOf n ps d l ks dl) → Q (.bl c) H'
theorem ok_stI (h : Has K mg "is_stand_in" sStI) {C : Addr} (X : PlanTxt K C) (CT : Can P w K mg base "is_tuple_of" ["thing", "many"] 1 spTupOf) (CP : Can P w K mg base "is_place" ["house", "thing"] 3 spPlaceP) (CG : Can P w K mg base "gap_of" ["plan", "one", "other"] 3 (spGap C)) (CR : Can P w K mg base "row_of" ["plan", "one", "other"] 3 (spRow C)) (CK : Can P w K mg base "knots_fit" ["plan", "rope", "pieces"] 3 (spKFt C)) : Can P w K mg base "is_stand_in" ["plan", "rope", "thing"] 5 (spStI C) := by
  obtain ⟨f, fd, F, g⟩ := h
  refine ⟨f, fd, F.ok (k := 4) scStI (fun vs H Q E h => ?_) (fun cdv A outer s H vs Q E hr h => ?_), g, F.kp, F.binds fun _ _ _ _ _ _ us hl => match us, hl with | [_, _, _], _ => rfl⟩
  · obtain ⟨a, v, tv, n, l, ps, d, ks, dl, rfl, _⟩ := h
    rfl
  · obtain ⟨a, v, tv, n, l, ps, d, ks, dl, rfl, pl, hk, T, dr, okr, dtv, q⟩ := h
    refine ⟨_, pss_cons (ps_if (pt_not (pt_val (pe_can CT (hr.mono (by decide)) (by rfl) (pa_cons (pv 2) (pa_cons pe_int pa_nil))))) (pss_one (ps_ret pe_bl)) pss_nil)
      (pss_cons (ps_asg (pv 2) (pg_tup (by rfl) (pgs_cons (pg_name (i := 3) scStI.nd rfl (by first | exact Or.inl rfl | exact Or.inr rfl)) (pgs_cons (pg_name (i := 4) scStI.nd rfl (by first | exact Or.inl rfl | exact Or.inr rfl)) pgs_nil))))
      (pss_cons (ps_if (PW.pt (pw_or (pt_not (pt_val (pe_can CP (hr.mono (by decide)) (by rfl) (pa_cons (pe_fld (pv 0) rfl) (pa_cons (pv 3) pa_nil))))) (pw_or1 (pt_not (pt_val (pe_can CP (hr.mono (by decide)) (by rfl) (pa_cons (pe_fld (pv 0) rfl) (pa_cons (pv 4) pa_nil)))))))) (pss_one (ps_ret pe_bl)) pss_nil)
      (pss_one (ps_ret (pe_and (pe_cmpR op_eq (pe_can CG (hr.mono (by decide)) (by rfl) (pa_cons (pv 0) (pa_cons (pv 3) (pa_cons (pv 4) pa_nil)))) (pe_ix ix_tup (pv 1) pe_int (fun _ _ => rfl)) (nomark _)) (pe_one (pe_can CK (hr.mono (by decide)) (by rfl) (pa_cons (pv 0) (pa_cons (pv 1) (pa_cons (pe_can CR (hr.mono (by decide)) (by rfl) (pa_cons (pv 0) (pa_cons (pv 4) (pa_cons (pv 3) pa_nil)))) pa_nil)))))))))), ?_⟩
    refine ⟨tv, rfl, tv, dl, _, _, rfl, dtv, _, rfl, ite2 (fun c2 => ?_) (fun c2 => ?_)⟩
    · refine q _ _ (Keep.refl _ _) ⟨fun h => Bool.noConfusion h, fun ⟨p, q', e, _⟩ => ?_⟩
      subst e
      exact absurd c2 (by simp [tupOf])
    have t2 : tupOf dl 2 = true := by revert c2; cases tupOf dl 2 <;> simp
    obtain ⟨dp, dq, rfl⟩ := two_of t2
    obtain ⟨ta, xs, rfl, _, eta, dxs⟩ := tup_at dtv
    rcases dxs with _ | ⟨d1, _ | ⟨d2, _ | _⟩⟩
    rename_i v1 v2
    have pl' := pl
    obtain ⟨dx, hb, pp, ddl, gl, tl, xp, ds, gs, ws, a1', a2, a3, a4, a5, a6, a7, _⟩ := pl'
    refine ⟨.ref ta, rfl, ta, _, rfl, SqT.of eta, rfl, _, _, rfl, _, [], rfl, rfl, ?_⟩
    have dhb : Dt [] H (.ref hb) (houseD n (ps.map Pi.dat)) := .tup List.not_mem_nil a4 (.cons (.int n) (.cons (.tup List.not_mem_nil a6 a7) .nil))
    refine ⟨.ref a, rfl, a, C, dx, _, .ref hb, rfl, a2, X.cl, X.nB, pf_built .., v1, rfl, .ref hb, v1, n, _, dp, [], [], rfl, dhb, pis_ok ps, d1, _, rfl, ite2 (fun c3 => ?_) (fun c3 => ?_)⟩
    · refine ite2 (fun _ => ?_) (fun h => absurd rfl h)
      refine q _ _ (Keep.refl _ _) ⟨fun h => Bool.noConfusion h, fun ⟨p, q', e, okp, okq, _⟩ => ?_⟩
      cases e
      rw [ok_isPlace okp] at c3
      cases c3
    refine ⟨.ref a, rfl, a, C, dx, _, .ref hb, rfl, a2, X.cl, X.nB, pf_built .., v2, rfl, .ref hb, v2, n, _, dq, [], [], rfl, dhb, pis_ok ps, d2, _, rfl, ite2 (fun c4 => ?_) (fun c4 => ?_)⟩
    · refine q _ _ (Keep.refl _ _) ⟨fun h => Bool.noConfusion h, fun ⟨p, q', e, okp, okq, _⟩ => ?_⟩
      cases e
      rw [ok_isPlace okq] at c4
      cases c4
    obtain ⟨p, rfl, okp⟩ := pl_of (n := n) (ps := ps) (d := dp) (by revert c3; cases isPlace n (ps.map Pi.dat) dp <;> simp)
    obtain ⟨q', rfl, okq⟩ := pl_of (n := n) (ps := ps) (d := dq) (by revert c4; cases isPlace n (ps.map Pi.dat) dq <;> simp)
    obtain ⟨ra, ys, rfl, _, era, dra⟩ := tup_at (show Dt [] H v (.tuple [.int l, .tuple (ks.map prD)]) from dr)
    have e0 : atI ys 0 = some (.int l) := by
      cases dra with
      | cons dl dra => cases dl; exact atI_nat (j := 0) rfl
    refine ⟨.ref a, rfl, v1, rfl, v2, rfl, a, v1, v2, n, ps, d, p, q', rfl, pl, T, d1, d2, okp, okq, fun G kG => ⟨.ref ra, rfl, ra, ys, 0, .int l, rfl, rfl, SqT.of (kG _ _ era List.not_mem_nil), e0, rfl, _, rfl, ite2 (fun c5 => ?_) (fun c5 => ?_)⟩⟩
    · have hl : Dp ps d p q' = l := by have := of_decide_eq_true c5; cases this; rfl
      refine ⟨.ref a, rfl, .ref ra, rfl, .ref a, rfl, v2, rfl, v1, rfl, a, v2, v1, n, ps, d, q', p, rfl, pl.keep kG, T, hk.n2, d2.keep kG, d1.keep kG, okq, okp, fun G1 Lp us pcs k1 eLp du ch tot p100 => ?_⟩
      have hl2 : Dp ps d q' p = l := by rw [Dp_sym T okq okp]; exact hl
      have pne : pcs ≠ [] := fun e => by
        rw [e] at tot
        have : ptot [] = 0 := rfl
        have := okr.1
        omega
      have at_z : ∀ k ∈ ks, At n ps d q' p (along ps pcs k.1) k.1 := fun k mk => by
        have kr := rising_in okr.2.2.1 k mk
        by_cases k0 : k.1 = 0
        · rw [k0, along0 ch pne]
          exact ⟨okq, Dp_self T okq, (Int.sub_zero _).symm⟩
        · have h := along_at T ch okp tot (k := k.1) (by omega) (by rw [tot, hl2]; exact kr.2)
          exact ⟨h.1, h.2.1, by rw [← tot]; exact h.2.2⟩
      have k4 := okr.2.2.2.2
      refine ⟨a, Lp, .ref ra, n, l, ps, d, ks, us, pcs, rfl, (pl.keep kG).keep k1, hk, (dr.keep kG).keep k1, by omega, eLp, du, pne, by omega, chn_pcs ch, fun k mk => (at_z k mk).1, fun H' c k2 hc => q _ _ ((kG.trans k1).trans k2) (hc.trans ⟨fun h => ⟨p, q', rfl, okp, okq, hl, fun k mk z hz i b w e m => h k mk i b w (by rw [(at_z k mk).same T okq okp hz]; exact e) m⟩, fun ⟨p2, q2, e, _, _, _, h⟩ => ?_⟩)⟩
      injection e with e
      injection e with e1 e
      injection e with e2 _
      cases tupI_inj e1
      cases tupI_inj e2
      exact fun k mk i b w e' m => h k mk _ (at_z k mk) i b w e' m
    · refine q _ _ kG ⟨fun h => Bool.noConfusion h, fun ⟨p2, q2, e, _, _, h, _⟩ => ?_⟩
      injection e with e
      injection e with e1 e
      injection e with e2 _
      rw [tupI_inj e1, tupI_inj e2, h] at c5
      exact absurd (decide_eq_true rfl) c5
abbrev sISd : Stmt := topS 27
abbrev nISd : List Str := ["house", "rope", "thing"]
theorem scISd : FnScope nISd ["house", "rope", "thing"] (defScope sISd) := ⟨rfl, rfl, rfl, by decide +kernel, rfl, by decide +kernel, by decide +kernel⟩
def spISd : Sp := fun vs H Q _ => ∃ (h v tv : V) (n l : Int) (ps : List Pi) (d : Int → Int → Int) (ks : List (Int × Int)) (dl : PyData), vs = [h, v, tv] ∧ Dt [] H h (houseD n (ps.map Pi.dat)) ∧ HouseOk n ps ∧ Tm n ps d ∧ Dt [] H v (ropeD l ks) ∧ okR l ks ∧ Dt [] H tv dl ∧
  ∀ (H' : Hp) (c : Bool), Keep [] H H' → (c = true ↔ StandOf n ps d l ks dl) → Q (.bl c) H'
theorem ok_iSd (h : Has K mg "is_stand" sISd) {C : Addr} (CPn : CanMk P w K mg base "Plan" C ["self", "house"] 2 (spInit C)) (CS : Can P w K mg base "is_stand_in" ["plan", "rope", "thing"] 5 (spStI C)) : Can P w K mg base "is_stand" ["house", "rope", "thing"] 6 spISd := by
  obtain ⟨f, fd, F, g⟩ := h
  refine ⟨f, fd, F.ok (k := 5) scISd (fun vs H Q E h => ?_) (fun cdv A outer s H vs Q E hr h => ?_), g, F.kp, F.binds fun _ _ _ _ _ _ us hl => match us, hl with | [_, _, _], _ => rfl⟩
  · obtain ⟨h, v, tv, n, l, ps, d, ks, dl, rfl, _⟩ := h
    rfl
  · obtain ⟨h, v, tv, n, l, ps, d, ks, dl, rfl, hh, hk, T, dr, okr, dtv, q⟩ := h
    refine ⟨_, pss_one (ps_ret (pe_can CS (hr.mono (by decide)) (by rfl) (pa_cons (pe_mk CPn (hr.mono (by decide)) (by rfl) (pa_cons (pv 0) pa_nil)) (pa_cons (pv 1) (pa_cons (pv 2) pa_nil))))), ?_⟩
    refine ⟨h, rfl, fun x dx nx ndx ne => plan_made (C := C) hh hk T (fun _ m => absurd m List.not_mem_nil) nx ndx ne (fun H1 k1 _ pl => ?_)⟩
    exact ⟨rfl, v, rfl, tv, rfl, x, v, tv, n, l, ps, d, ks, dl, rfl, pl, hk, T, dr.keep k1, okr, dtv.keep k1, fun H2 c k2 hc => q H2 c (k1.trans k2) hc⟩
end
end Rw

namespace Rw
open PySem PySem.Spec PyProof.Rows L2
def risD (hi : Int) : Int → List PyData → Bool
  | _, [] => true
  | lo, x :: xs => match x with
    | .tuple [.int i, _] => decide (lo ≤ i) && decide (i ≤ hi) && risD hi (i + 1) xs
    | _ => false
def risT (lo hi : Int) : PyData → Bool
  | .tuple ds => risD hi lo ds
  | _ => false
theorem risD_no {hi lo : Int} {x : PyData} {xs : List PyData} (h : tupOf x 2 = false ∨ ∃ a b, x = .tuple [a, b] ∧ within a lo hi = false) : risD hi lo (x :: xs) = false := by
  unfold risD
  split
  · rename_i i b
    rcases h with h | ⟨a, b', e, h⟩
    · exact absurd h (by simp [tupOf])
    · cases e
      have h' : (decide (lo ≤ i) && decide (i ≤ hi)) = false := h
      rw [h']; rfl
  · rfl
theorem risD_yes {hi lo i : Int} {b : PyData} {xs : List PyData} (h : within (.int i) lo hi = true) : risD hi lo (.tuple [.int i, b] :: xs) = risD hi (i + 1) xs := by
  have h' : (decide (lo ≤ i) && decide (i ≤ hi)) = true := h
  show (decide (lo ≤ i) && decide (i ≤ hi) && risD hi (i + 1) xs) = _
  rw [h']; rfl
theorem within_int {a : PyData} {lo hi : Int} (h : within a lo hi = true) : ∃ i, a = .int i := by
  cases a with
  | int i => exact ⟨i, rfl⟩
  | none => cases h
  | bool _ => cases h
  | str _ => cases h
  | list _ => cases h
  | tuple _ => cases h
  | dict _ => cases h
theorem ris_pair {hi : Int} : ∀ {xs : List PyData} {lo : Int}, risD hi lo xs = true → ∀ x ∈ xs, ∃ i s, x = .tuple [.int i, s]
  | [], _, _, x, m => nomatch m
  | y :: xs, lo, h, x, m => by
    unfold risD at h
    split at h
    · rename_i i s
      rcases List.mem_cons.mp m with rfl | m
      · exact ⟨i, s, rfl⟩
      · exact ris_pair (Bool.and_eq_true _ _ ▸ h).2 x m
    · cases h
section
variable {P : Program} {w : World} {K : PySem.W.Frag} {mg : Str → Option Value} {base : Heap}
abbrev sRPg : Stmt := topS 8
abbrev nRPg : List Str := ["thing", "low", "high", "least", "pair"]
theorem scRPg : FnScope nRPg ["thing", "low", "high"] (defScope sRPg) := ⟨rfl, rfl, rfl, by decide +kernel, rfl, by decide +kernel, by decide +kernel⟩
def spRPg : Sp := fun vs H Q _ => ∃ (v : V) (lo hi : Int) (dl : PyData), vs = [v, .int lo, .int hi] ∧ Dt [] H v dl ∧ Q (.bl (risT lo hi dl)) H
theorem ok_rPg (h : Has K mg "are_rising_pairs" sRPg) (B : Blt mg) (CT : Can P w K mg base "is_tuple_of" ["thing", "many"] 1 spTupOf) (CW : Can P w K mg base "is_within" ["thing", "low", "high"] 2 spWithin) : Can P w K mg base "are_rising_pairs" ["thing", "low", "high"] 3 spRPg := by
  obtain ⟨f, fd, F, g⟩ := h
  refine ⟨f, fd, F.ok (k := 2) scRPg (fun vs H Q E h => ?_) (fun cdv A outer s H vs Q E hr h => ?_), g, F.kp, F.binds fun _ _ _ _ _ _ us hl => match us, hl with | [_, _, _], _ => rfl⟩
  · obtain ⟨v, lo, hi, dl, rfl, _⟩ := h
    rfl
  · obtain ⟨v, lo, hi, dl, rfl, dv, q⟩ := h
    refine ⟨_, pss_cons (ps_if (pt_not (pt_val (pe_callB (call_isD kit_tup) (by rfl) B.isi boot_isinstance (pa_cons (pv 0) (pa_cons (pe_bltn (v := .ty "tuple") (by rfl) B.tuple_ boot_tuple rfl) pa_nil))))) (pss_one (ps_ret pe_bl)) pss_nil)
      (pss_cons (ps_set (i := 3) scRPg.nd rfl (by first | exact Or.inl rfl | exact Or.inr rfl) (pv 1))
      (pss_cons (ps_for PassesOwn.never rfl (pi_tup (pv 0)) (pg_name (i := 4) scRPg.nd rfl (by first | exact Or.inl rfl | exact Or.inr rfl))
      (pss_cons (ps_if (PW.pt (pw_or (pt_not (pt_val (pe_can CT (hr.mono (by decide)) (by rfl) (pa_cons (pv 4) (pa_cons pe_int pa_nil))))) (pw_or1 (pt_not (pt_val (pe_can CW (hr.mono (by decide)) (by rfl) (pa_cons (pe_ix ix_tup (pv 4) pe_int (fun _ _ => rfl)) (pa_cons (pv 3) (pa_cons (pv 2) pa_nil))))))))) (pss_one (ps_ret pe_bl)) pss_nil)
      (pss_one (ps_set (i := 3) scRPg.nd rfl (by first | exact Or.inl rfl | exact Or.inr rfl) (pe_op op_add (pe_ix ix_tup (pv 4) pe_int (fun _ _ => rfl)) pe_int)))))
      (pss_one (ps_ret pe_bl)))), ?_⟩
    refine ⟨v, rfl, v, dl, [], rfl, dv, _, rfl, ite2 (fun c => ?_) (fun c => ?_)⟩
    · have e : risT lo hi dl = false := by
        cases dl <;> first | rfl | exact absurd c (by simp [aTup])
      rw [e] at q; exact q
    obtain ⟨ds, rfl⟩ : ∃ ds, dl = .tuple ds := by
      cases dl with
      | tuple ds => exact ⟨ds, rfl⟩
      | _ => exact absurd rfl c
    obtain ⟨T, xs, rfl, _, eT, dxs⟩ := tup_at dv
    have lx := dxs.len
    refine ⟨.int lo, rfl, ?_⟩
    refine ⟨.ref T, rfl, T, rfl, ⟨_, SqT.of eT⟩, for_tup (K := K) (a := T) (xs := xs) (fun t σ M => ∃ (lo' : Int) (s4 : Option V), σ = [some (.ref T), some (.int lo), some (.int hi), some (.int lo'), s4] ∧ M = H ∧ risD hi lo ds = risD hi lo' (ds.drop t))
      ⟨lo, _, rfl, rfl, by rw [List.drop_zero]⟩ (fun t σ M _ z => ?_) (fun t y σ M gy z => ?_) (fun σ M z => ?_)⟩
    · obtain ⟨_, _, _, rfl, _⟩ := z
      exact SqT.of eT
    · obtain ⟨lo', s4, rfl, rfl, hr'⟩ := z
      obtain ⟨x, gx, dy⟩ := dxs.getv t gy
      have hd : ds.drop t = x :: ds.drop (t + 1) := by
        obtain ⟨ht, e⟩ := List.getElem?_eq_some_iff.mp gx
        rw [List.drop_eq_getElem_cons ht, e]
      rw [hd] at hr'
      have no : (tupOf x 2 = false ∨ ∃ a b, x = .tuple [a, b] ∧ within a lo' hi = false) → Q (.bl false) M := fun h => by
        have : risT lo hi (.tuple ds) = false := hr'.trans (risD_no h)
        rw [this] at q; exact q
      refine ⟨y, rfl, y, x, [], 2, rfl, dy, _, rfl, ite2 (fun c2 => ?_) (fun c2 => ?_)⟩
      · exact ite2 (fun _ => no (.inl (by revert c2; cases tupOf x 2 <;> simp))) (fun h => absurd rfl h)
      obtain ⟨a, b, rfl⟩ := two_of (dl := x) (by revert c2; cases tupOf x 2 <;> simp)
      obtain ⟨ya, ys, rfl, _, eya, dys⟩ := tup_at dy
      rcases dys with _ | ⟨da, _ | ⟨db, _ | _⟩⟩
      rename_i va vb
      refine ⟨.ref ya, rfl, ya, _, 0, va, rfl, rfl, SqT.of eya, atI_nat (j := 0) rfl, .int lo', rfl, .int hi, rfl, va, a, [], lo', hi, rfl, da, _, rfl, ite2 (fun c3 => ?_) (fun c3 => ?_)⟩
      · exact no (.inr ⟨a, b, rfl, by revert c3; cases within a lo' hi <;> simp⟩)
      have w : within a lo' hi = true := by revert c3; cases within a lo' hi <;> simp
      obtain ⟨i, rfl⟩ := within_int w
      cases da
      refine ⟨.ref ya, rfl, ya, _, 0, .int i, rfl, rfl, SqT.of eya, atI_nat (j := 0) rfl, i, 1, rfl, rfl, ?_⟩
      exact ⟨i + 1, _, rfl, rfl, hr'.trans (risD_yes w)⟩
    · obtain ⟨lo', s4, rfl, rfl, hr'⟩ := z
      have : risT lo hi (.tuple ds) = true := hr'.trans (by rw [lx, List.drop_length]; rfl)
      rw [this] at q; exact q
abbrev sIRg : Stmt := topS 26
abbrev nIRg : List Str := ["thing", "length", "knots", "behind", "size"]
theorem scIRg : FnScope nIRg ["thing"] (defScope sIRg) := ⟨rfl, rfl, rfl, by decide +kernel, rfl, by decide +kernel, by decide +kernel⟩
def sizB : PyData → Bool
  | .tuple [_, s] => within s 1 1000000
  | _ => false
def isRope : PyData → Bool
  | .tuple [.int l, .tuple ks] => within (.int l) 1 100000000000000 && risD l 0 ks && decide (ks.length ≤ 4) && ks.all sizB
  | _ => false
def spIRg : Sp := fun vs H Q _ => ∃ (v : V) (dl : PyData), vs = [v] ∧ Dt [] H v dl ∧ ∀ H', Keep [] H H' → Q (.bl (isRope dl)) H'
theorem ok_iRg (h : Has K mg "is_rope" sIRg) (B : Blt mg) (cR : ∃ t, mg "REACH" = some (.int 100000000000000 t)) (cN : ∃ t, mg "KNOTS" = some (.int 4 t)) (cW : ∃ t, mg "WIDE" = some (.int 1000000 t)) (CT : Can P w K mg base "is_tuple_of" ["thing", "many"] 1 spTupOf) (CW : Can P w K mg base "is_within" ["thing", "low", "high"] 2 spWithin) (CP : Can P w K mg base "are_rising_pairs" ["thing", "low", "high"] 3 spRPg) : Can P w K mg base "is_rope" ["thing"] 4 spIRg := by
  obtain ⟨f, fd, F, g⟩ := h
  refine ⟨f, fd, F.ok (k := 3) scIRg (fun vs H Q E h => ?_) (fun cdv A outer s H vs Q E hr h => ?_), g, F.kp, F.binds fun _ _ _ _ _ _ us hl => match us, hl with | [_], _ => rfl⟩
  · obtain ⟨v, dl, rfl, _⟩ := h
    rfl
  · obtain ⟨v, dl, rfl, dv, q⟩ := h
    refine ⟨_, pss_cons (ps_if (PW.pt (pw_or (pt_not (pt_val (pe_can CT (hr.mono (by decide)) (by rfl) (pa_cons (pv 0) (pa_cons pe_int pa_nil))))) (pw_or1 (pt_not (pt_val (pe_can CW (hr.mono (by decide)) (by rfl) (pa_cons (pe_ix ix_tup (pv 0) pe_int (fun _ _ => rfl)) (pa_cons pe_int (pa_cons (pe_glob (v := .int 100000000000000) rfl cR.choose_spec ⟨_, rfl⟩) pa_nil))))))))) (pss_one (ps_ret pe_bl)) pss_nil)
      (pss_cons (ps_asg (pv 0) (pg_tup (by rfl) (pgs_cons (pg_name (i := 1) scIRg.nd rfl (by first | exact Or.inl rfl | exact Or.inr rfl)) (pgs_cons (pg_name (i := 2) scIRg.nd rfl (by first | exact Or.inl rfl | exact Or.inr rfl)) pgs_nil))))
      (pss_cons (ps_if (PW.pt (pw_or (pt_not (pt_val (pe_can CP (hr.mono (by decide)) (by rfl) (pa_cons (pv 2) (pa_cons pe_int (pa_cons (pv 1) pa_nil)))))) (pw_or1 (pt_cmpR op_gt (pe_callB call_len_seq (by rfl) B.len_ PySem.boot_len (pa_cons (pv 2) pa_nil)) (pe_glob (v := .int 4) rfl cN.choose_spec ⟨_, rfl⟩) (nomark _))))) (pss_one (ps_ret pe_bl)) pss_nil)
      (pss_one (ps_ret (pe_callB (cr_all rfl) (by rfl) B.all_ (by decide +kernel) (pa_cons (pe_lc (own := [("behind", 3), ("size", 4)]) (tt := tYes) rfl scIRg.nd (pi_tup (pv 2)) (blkOk_by (N := nIRg) (sc := defScope sIRg) (by decide +kernel)) (fun _ _ _ _ _ => (pg_tupK (K := K) (n := 2) rfl (by rfl) (pgs_cons (pg_name (i := 3) scIRg.nd rfl (by first | exact Or.inl rfl | exact Or.inr rfl)) (pgs_cons (pg_name (i := 4) scIRg.nd rfl (by first | exact Or.inl rfl | exact Or.inr rfl)) pgs_nil)))) (fun _ _ _ _ _ => pts_nil) (fun _ _ _ _ _ => (pe_can CW (hr.mono (by decide)) (by rfl) (pa_cons (pv 4) (pa_cons pe_int (pa_cons (pe_glob (v := .int 1000000) rfl cW.choose_spec ⟨_, rfl⟩) pa_nil)))))) pa_nil)))))), ?_⟩
    have no : isRope dl = false → Q (.bl false) H := fun h => by
      have := q H (Keep.refl _ _)
      rw [h] at this; exact this
    refine ⟨v, rfl, v, dl, [], 2, rfl, dv, _, rfl, ite2 (fun c2 => ?_) (fun c2 => ?_)⟩
    · refine ite2 (fun _ => no ?_) (fun h => absurd rfl h)
      unfold isRope
      split
      · exact absurd c2 (by simp [tupOf])
      · rfl
    obtain ⟨a, kd, rfl⟩ := two_of (dl := dl) (by revert c2; cases tupOf dl 2 <;> simp)
    obtain ⟨ta, xs, rfl, _, eta, dxs⟩ := tup_at dv
    rcases dxs with _ | ⟨da, _ | ⟨dk, _ | _⟩⟩
    rename_i va vk
    refine ⟨.ref ta, rfl, ta, _, 0, va, rfl, rfl, SqT.of eta, atI_nat (j := 0) rfl, va, a, [], 1, 100000000000000, rfl, da, _, rfl, ite2 (fun c3 => ?_) (fun c3 => ?_)⟩
    · refine no ?_
      have w0 : within a 1 100000000000000 = false := by revert c3; cases within a 1 100000000000000 <;> simp
      unfold isRope
      split
      · rename_i e
        cases e
        rw [w0]; rfl
      · rfl
    have w1 : within a 1 100000000000000 = true := by revert c3; cases within a 1 100000000000000 <;> simp
    obtain ⟨l, rfl⟩ := within_int w1
    cases da
    refine ⟨.ref ta, rfl, ta, _, rfl, SqT.of eta, rfl, _, _, rfl, _, [], rfl, rfl, ?_⟩
    refine ⟨vk, rfl, .int l, rfl, vk, 0, l, kd, rfl, dk, _, rfl, ite2 (fun c4 => ?_) (fun c4 => ?_)⟩
    · refine ite2 (fun _ => no ?_) (fun h => absurd rfl h)
      have r0 : risT 0 l kd = false := by revert c4; cases risT 0 l kd <;> simp
      cases kd with
      | tuple ks =>
        show (within (.int l) 1 100000000000000 && risD l 0 ks && decide (ks.length ≤ 4) && ks.all sizB) = false
        rw [show risD l 0 ks = false from r0, Bool.and_false]; rfl
      | _ => rfl
    have r1 : risT 0 l kd = true := by revert c4; cases risT 0 l kd <;> simp
    obtain ⟨ks, rfl⟩ : ∃ ks, kd = .tuple ks := by
      cases kd with
      | tuple ks => exact ⟨ks, rfl⟩
      | _ => cases r1
    have rr : risD l 0 ks = true := r1
    obtain ⟨tk, ku, rfl, _, etk, dku⟩ := tup_at dk
    have lku := dku.len
    have eR : isRope (.tuple [.int l, .tuple ks]) = (decide (ks.length ≤ 4) && ks.all sizB) := by
      show (within (.int l) 1 100000000000000 && risD l 0 ks && decide (ks.length ≤ 4) && ks.all sizB) = _
      rw [w1, rr]; rfl
    refine ⟨.ref tk, rfl, tk, _, rfl, .inr (SqT.of etk), _, _, rfl, rfl, _, rfl, ite2 (fun c5 => ?_) (fun c5 => ?_)⟩
    · refine no (by rw [eR, decide_eq_false (by have := of_decide_eq_true c5; omega)]; rfl)
    have l4 : ks.length ≤ 4 := by
      have : ¬ (4 : Int) < ku.length := fun h => c5 (decide_eq_true h)
      omega
    refine ⟨.ref tk, rfl, tk, rfl, ⟨_, SqT.of etk⟩, fun W nW => ?_⟩
    refine lc_tup (K := K) (a := tk) (xs := ku) (fun t M => Keep [] H M ∧ M W = some (.lst (((ks.take t).map sizB).map V.bl)))
      ⟨Keep.new nW, upd_same⟩ (fun t M _ z => SqT.of (z.1 _ _ etk List.not_mem_nil)) (fun t y M gy z => ?_) (fun M z => ?_)
    · obtain ⟨kM, eW⟩ := z
      obtain ⟨x, gx, dy⟩ := (dku.keep kM).getv t gy
      obtain ⟨i, s, rfl⟩ := ris_pair rr x (List.mem_of_getElem? gx)
      obtain ⟨ya, ys, rfl, _, eya, dys⟩ := tup_at dy
      rcases dys with _ | ⟨di, _ | ⟨ds, _ | _⟩⟩
      cases di
      rename_i vs
      have ht := (List.getElem?_eq_some_iff.mp gx).1
      refine ⟨ya, _, rfl, SqT.of eya, rfl, _, _, rfl, _, [], rfl, rfl, rfl, vs, rfl, vs, s, [], 1, 1000000, rfl, ds, _, eW, by rw [List.length_map, List.length_map, List.length_take]; exact Nat.lt_of_le_of_lt (show min t ks.length ≤ 4 by omega) (by decide), kM.upd nW, ?_⟩
      rw [upd_same, List.take_add_one, gx]
      simp only [List.map_append, Option.toList, List.map_cons, List.map_nil, sizB]
    · obtain ⟨kM, eW⟩ := z
      rw [lku, List.take_length] at eW
      refine ⟨W, ks.map sizB, rfl, SqL.of eW, ?_⟩
      have := q M kM
      rw [eR, decide_eq_true l4] at this
      have e : (ks.map sizB).all id = (true && ks.all sizB) := by rw [List.all_map]; rfl
      rw [e]; exact this
end
end Rw

namespace Rw
open PySem PySem.Spec PyProof.Rows L2 TL
/-! how long a thing is when it is shown, at most -/
mutual
def wt : PyData → Nat
  | .none => 4
  | .bool _ => 5
  | .int _ => 24
  | .str _ => 8
  | .list ds => wtA ds + 3
  | .tuple ds => wtA ds + 3
  | .dict _ => 2
def wtA : List PyData → Nat
  | [] => 0
  | d :: ds => wt d + 2 + wtA ds
end
theorem wtA_app : ∀ {xs ys : List PyData}, wtA (xs ++ ys) = wtA xs + wtA ys
  | [], ys => by simp only [List.nil_append, wtA]; omega
  | x :: xs, ys => by simp only [List.cons_append, wtA, wtA_app (xs := xs)]; omega
theorem wtA_rev : ∀ {xs : List PyData}, wtA xs.reverse = wtA xs
  | [] => rfl
  | x :: xs => by rw [List.reverse_cons, wtA_app, wtA_rev]; simp only [wtA]; omega
theorem wtA_mem : ∀ {xs : List PyData} {x : PyData}, x ∈ xs → wt x + 2 ≤ wtA xs
  | y :: ys, x, m => by
    simp only [wtA]
    rcases List.mem_cons.mp m with rfl | m
    · omega
    · have := wtA_mem m; omega
theorem wt_pos (d : PyData) : 2 ≤ wt d := by
  cases d <;> simp only [wt] <;> omega
theorem wtA_len : ∀ {xs : List PyData}, 4 * xs.length ≤ wtA xs
  | [] => Nat.zero_le _
  | x :: xs => by
    simp only [wtA, List.length_cons]
    have := wtA_len (xs := xs)
    have := wt_pos x
    omega
theorem wtA_le {b : Nat} : ∀ {xs : List PyData}, (∀ x ∈ xs, wt x ≤ b) → wtA xs ≤ xs.length * (b + 2)
  | [], _ => by simp only [wtA]; omega
  | x :: xs, h => by
    have h1 := h x List.mem_cons_self
    have h2 := wtA_le (b := b) (xs := xs) fun y m => h y (List.mem_cons_of_mem _ m)
    simp only [wtA, List.length_cons, Nat.succ_mul]
    omega
theorem wtA_at {xs : List PyData} {i : Nat} {x : PyData} (h : xs[i]? = some x) : wtA xs = wtA (xs.take i) + (wt x + 2) + wtA (xs.drop (i + 1)) := by
  obtain ⟨h1, h2⟩ := List.getElem?_eq_some_iff.mp h
  have e : xs = xs.take i ++ x :: xs.drop (i + 1) := by rw [← h2, ← List.drop_eq_getElem_cons h1, List.take_append_drop]
  have := congrArg wtA e
  rw [wtA_app] at this
  simp only [wtA] at this
  omega
/-! what may stand in it: ints to c, short texts, m levels at most -/
inductive Od : Nat → Int → PyData → Prop
  | non (m : Nat) (c : Int) : Od m c .none
  | bool (m : Nat) (c : Int) (b : Bool) : Od m c (.bool b)
  | int (m : Nat) (c : Int) {i : Int} : -c ≤ i → i ≤ c → Od m c (.int i)
  | str (m : Nat) (c : Int) {x : Str} : x = Str.ofString "" ∨ x = Str.ofString "way" ∨ x = Str.ofString "bar" ∨ x = Str.ofString "Bar" ∨ x = Str.ofString "1" → Od m c (.str x)
  | dct (m : Nat) (c : Int) : Od m c (.dict [])
  | tup {m : Nat} {c : Int} {ds : List PyData} : (∀ d ∈ ds, Od m c d) → Od (m + 1) c (.tuple ds)
  | lst {m : Nat} {c : Int} {ds : List PyData} : (∀ d ∈ ds, Od m c d) → Od (m + 1) c (.list ds)
theorem Od.mono {m m' : Nat} {c c' : Int} {d : PyData} (h : Od m c d) (hm : m ≤ m') (hc : c ≤ c') : Od m' c' d := by
  induction h generalizing m' with
  | non => exact .non _ _
  | bool => exact .bool _ _ _
  | int _ _ a b => exact .int _ _ (by omega) (by omega)
  | str _ _ a => exact .str _ _ a
  | dct => exact .dct _ _
  | @tup m _ ds h ih =>
    obtain ⟨k, rfl⟩ : ∃ k, m' = k + 1 := ⟨m' - 1, by omega⟩
    exact .tup fun d md => ih d md (by omega) hc
  | @lst m _ ds h ih =>
    obtain ⟨k, rfl⟩ : ∃ k, m' = k + 1 := ⟨m' - 1, by omega⟩
    exact .lst fun d md => ih d md (by omega) hc
theorem Od.parts {m : Nat} {c : Int} {ds : List PyData} (h : Od m c (.tuple ds)) : ∃ k, m = k + 1 ∧ ∀ d ∈ ds, Od k c d := by
  cases h with
  | tup h => exact ⟨_, rfl, h⟩
theorem od_all {m : Nat} {c : Int} : ∀ {ds : List PyData}, (∀ d ∈ ds, d.showable = true ∧ d.depth ≤ m + 1 ∧ d.shown.length ≤ wt d) → PyData.showableAll ds = true ∧ PyData.depthAll ds ≤ m + 1 ∧ ((PyData.shownAll ds).map (·.length)).sum + 2 * (PyData.shownAll ds).length ≤ wtA ds
  | [], _ => by
    refine ⟨by simp only [PyData.showableAll], by simp only [PyData.depthAll]; omega, ?_⟩
    simp only [PyData.shownAll, wtA]
    decide
  | d :: ds, h => by
    obtain ⟨a1, a2, a3⟩ := h d List.mem_cons_self
    obtain ⟨b1, b2, b3⟩ := od_all (c := c) fun z mz => h z (List.mem_cons_of_mem _ mz)
    refine ⟨by simp only [PyData.showableAll, a1, b1, Bool.and_true], by simp only [PyData.depthAll]; omega, ?_⟩
    simp only [PyData.shownAll, List.map_cons, List.sum_cons, List.length_cons, wtA]
    omega
theorem Od.shows {m : Nat} {c : Int} (hc : c ≤ 100000000000000000000) : ∀ {d : PyData}, Od m c d → d.showable = true ∧ d.depth ≤ m + 1 ∧ d.shown.length ≤ wt d := by
  intro d h
  induction h with
  | non => exact ⟨rfl, by simp [PyData.depth], by simp only [PyData.shown, wt]; decide +kernel⟩
  | bool m c b => exact ⟨rfl, by simp [PyData.depth], by cases b <;> (simp only [PyData.shown, wt]; decide +kernel)⟩
  | @int m c i a b =>
    have hn : i.natAbs < 10 ^ 21 := by
      have : (10 : Nat) ^ 21 = 1000000000000000000000 := by decide
      omega
    refine ⟨?_, by simp [PyData.depth], ?_⟩
    · simp only [PyData.showable]
      refine decide_eq_true ?_
      by_cases z : i.natAbs = 0
      · rw [z]; decide
      · exact Nat.lt_of_lt_of_le ((Nat.log2_lt z).mpr (show i.natAbs < 2 ^ 70 by have : (2 : Nat) ^ 70 = 1180591620717411303424 := by decide
                                                                                 omega)) (by decide)
    · rw [PyData.shown_int, PySem.ofString_length]
      have := int_text_length_le10 (k := 21) (by decide) hn
      simp only [wt]
      omega
  | @str m c x hx => exact ⟨rfl, by simp [PyData.depth], by rcases hx with rfl | rfl | rfl | rfl | rfl <;> (simp only [PyData.shown, wt]; decide +kernel)⟩
  | dct => exact ⟨rfl, by simp [PyData.depth, PyData.depthKv], by simp only [PyData.shown, wt]; decide +kernel⟩
  | @tup m c ds _ ih =>
    obtain ⟨a, b, e⟩ := od_all (c := c) fun d md => ih d md hc
    refine ⟨by simp only [PyData.showable]; exact a, by simp only [PyData.depth]; omega, ?_⟩
    have := tupleText_len_le (PyData.shownAll ds)
    simp only [PyData.shown, wt]
    omega
  | @lst m c ds _ ih =>
    obtain ⟨a, b, e⟩ := od_all (c := c) fun d md => ih d md hc
    refine ⟨by simp only [PyData.showable]; exact a, by simp only [PyData.depth]; omega, ?_⟩
    have := listText_len_le (PyData.shownAll ds)
    simp only [PyData.shown, wt]
    omega
end Rw

namespace Rw
open PySem PySem.Spec PyProof.Rows L2
/-! slices and sums of tuples of any data -/
theorem stays {H H' : Hp} {av : List Addr} (hv : ∀ a ∈ av, H a ≠ none) (k : Keep [] H H') : ∀ a ∈ av, H' a ≠ none := fun a m e => by
  cases c : H a with
  | none => exact hv a m c
  | some o => rw [k _ _ c List.not_mem_nil] at e; cases e
theorem offA {H : Hp} {av : List Addr} {T : Addr} (hv : ∀ a ∈ av, H a ≠ none) (n : H T = none) : T ∉ av := fun m => hv T m n
theorem tupD {av : List Addr} {H : Hp} {T : Addr} {xs : List V} {ds : List PyData} (hv : ∀ a ∈ av, H a ≠ none) (n : H T = none) (d : Dts av H xs ds) : Keep [] H (upd H T (.tup xs)) ∧ Dt av (upd H T (.tup xs)) (.ref T) (.tuple ds) :=
  have k : Keep [] H (upd H T (.tup xs)) := Keep.new n
  ⟨k, .tup (offA hv n) upd_same (d.keep k.of)⟩
theorem lstD {av : List Addr} {H : Hp} {T : Addr} {xs : List V} {ds : List PyData} (hv : ∀ a ∈ av, H a ≠ none) (n : H T = none) (d : Dts av H xs ds) : Keep [] H (upd H T (.lst xs)) ∧ Dt av (upd H T (.lst xs)) (.ref T) (.list ds) :=
  have k : Keep [] H (upd H T (.lst xs)) := Keep.new n
  ⟨k, .lst (offA hv n) upd_same (d.keep k.of)⟩
theorem catD {K : PySem.W.Frag} {av : List Addr} {H : Hp} {a b : Addr} {xs ys : List PyData} {Q : VK} (hv : ∀ a ∈ av, H a ≠ none) (d1 : Dt av H (.ref a) (.tuple xs)) (d2 : Dt av H (.ref b) (.tuple ys)) (len : xs.length + ys.length ≤ sizeLine) (q : ∀ (H' : Hp) (p : Addr), Keep [] H H' → Dt av H' (.ref p) (.tuple (xs ++ ys)) → Q (.ref p) H') : rCatA K (.ref a) (.ref b) H Q := by
  obtain ⟨_, us, e0, na, ea, du⟩ := tup_at d1
  cases e0
  obtain ⟨_, vs, e0, nb, eb, dv⟩ := tup_at d2
  cases e0
  refine ⟨a, b, us, vs, rfl, rfl, SqT.of ea, SqT.of eb, by rw [du.len, dv.len]; exact len, fun e => ?_, fun _ e => ?_, fun _ _ p np => ?_⟩
  · subst e
    cases du
    exact q H b (Keep.refl _ _) d2
  · subst e
    cases dv
    exact q H a (Keep.refl _ _) (by rw [List.append_nil]; exact d1)
  · obtain ⟨k, d⟩ := tupD hv np (du.app dv)
    exact q _ p k d
theorem toD {K : PySem.W.Frag} {av : List Addr} {H : Hp} {a : Addr} {xs : List PyData} {Q : VK} (i : Nat) (hv : ∀ a ∈ av, H a ≠ none) (d1 : Dt av H (.ref a) (.tuple xs)) (q : ∀ (H' : Hp) (p : Addr), Keep [] H H' → Dt av H' (.ref p) (.tuple (xs.take i)) → Q (.ref p) H') : rSlA K (.ref a) none (some (i : Int)) H Q := by
  obtain ⟨_, us, e0, na, ea, du⟩ := tup_at d1
  cases e0
  refine ⟨a, us, rfl, SqT.of ea, fun e => ?_, fun _ p np => ?_⟩
  · have h1 : xs.take i = xs := by
      have h2 := cut_to us i
      have : us.take i = us := by
        rw [← h2]
        unfold cutV
        rw [e.1, e.2]
        simp
      have l1 := congrArg List.length this
      rw [List.length_take, du.len] at l1
      exact List.take_of_length_le (by omega)
    exact q H a (Keep.refl _ _) (by rw [h1]; exact d1)
  · rw [cut_to]
    obtain ⟨k, d⟩ := tupD hv np (du.take i)
    exact q _ p k d
theorem fromD {K : PySem.W.Frag} {av : List Addr} {H : Hp} {a : Addr} {xs : List PyData} {Q : VK} (i : Nat) (hv : ∀ a ∈ av, H a ≠ none) (d1 : Dt av H (.ref a) (.tuple xs)) (q : ∀ (H' : Hp) (p : Addr), Keep [] H H' → Dt av H' (.ref p) (.tuple (xs.drop i)) → Q (.ref p) H') : rSlA K (.ref a) (some (i : Int)) none H Q := by
  obtain ⟨_, us, e0, na, ea, du⟩ := tup_at d1
  cases e0
  refine ⟨a, us, rfl, SqT.of ea, fun e => ?_, fun _ p np => ?_⟩
  · have h1 : xs.drop i = xs := by
      have h2 := cut_from us i
      have : us.drop i = us := by
        rw [← h2]
        unfold cutV
        rw [e.1, e.2]
        simp
      have l1 := congrArg List.length this
      rw [List.length_drop, du.len] at l1
      rcases Nat.eq_zero_or_pos i with h | h
      · rw [h]; rfl
      · have : xs.length = 0 := by omega
        rw [List.length_eq_zero_iff.mp this, List.drop_nil]
    exact q H a (Keep.refl _ _) (by rw [h1]; exact d1)
  · rw [cut_from]
    obtain ⟨k, d⟩ := tupD hv np (du.drop i)
    exact q _ p k d
end Rw

namespace Rw
open PySem PySem.Spec PyProof.Rows L2
section
variable {P : Program} {w : World} {K : PySem.W.Frag} {mg : Str → Option Value} {base : Heap}
abbrev sLWh : Stmt := topS 44
abbrev nLWh : List Str := ["_law_thing", "_law_low", "_law_high"]
theorem scLWh : FnScope nLWh ["_law_thing", "_law_low", "_law_high"] (defScope sLWh) := ⟨rfl, rfl, rfl, by decide +kernel, rfl, by decide +kernel, by decide +kernel⟩
def spLWh : Sp := fun vs H Q _ => ∃ (v : V) (lo hi : Int) (dl : PyData), vs = [v, .int lo, .int hi] ∧ Dt [] H v dl ∧ Q (.bl (within dl lo hi)) H
theorem ok_lWh (h : Has K mg "_law_whole" sLWh) (B : Blt mg) : Can P w K mg base "_law_whole" ["_law_thing", "_law_low", "_law_high"] 1 spLWh := by
  obtain ⟨f, fd, F, g⟩ := h
  refine ⟨f, fd, F.ok (k := 0) scLWh (fun vs H Q E h => ?_) (fun cdv A outer s H vs Q E hr h => ?_), g, F.kp, F.binds fun _ _ _ _ _ _ us hl => match us, hl with | [_, _, _], _ => rfl⟩
  · obtain ⟨v, lo, hi, dl, rfl, _⟩ := h
    rfl
  · obtain ⟨v, lo, hi, dl, rfl, dv, q⟩ := h
    refine ⟨_, pss_one (ps_ret (pe_and (pe_callB (call_isD kit_int) (by rfl) B.isi boot_isinstance (pa_cons (pv 0) (pa_cons (pe_bltn (v := .ty "int") (by rfl) B.int_ boot_int rfl) pa_nil))) (pe_and (pe_not (pe_callB (call_isD kit_bool) (by rfl) B.isi boot_isinstance (pa_cons (pv 0) (pa_cons (pe_bltn (v := .ty "bool") (by rfl) B.bool_ boot_bool rfl) pa_nil)))) (pe_one (pe_chain op_le op_le (pv 1) (pv 0) (pv 2)))))), ?_⟩
    refine ⟨v, rfl, v, dl, [], rfl, dv, aInt dl, rfl, ite2 (fun c => ?_) (fun c => ?_)⟩
    · refine ⟨v, rfl, v, dl, [], rfl, dv, aBool dl, rfl, (!aBool dl), rfl, ite2 (fun c2 => ?_) (fun c2 => ?_)⟩
      · cases dl with
        | int i =>
          cases dv
          refine ⟨.int lo, rfl, .int i, rfl, lo, i, rfl, rfl, ?_⟩
          have q' : Q (.bl (decide (lo ≤ i) && decide (i ≤ hi))) H := q
          refine ⟨_, rfl, ite2 (fun c3 => ⟨.int hi, rfl, i, hi, rfl, rfl, ?_⟩) (fun c3 => ?_)⟩
          · rw [c3] at q'; exact q'
          · rw [Bool.eq_false_iff.mpr c3] at q'; exact q'
        | bool b => cases c2
        | _ => cases c
      · cases dl with
        | bool b => exact q
        | _ => exact absurd rfl c2
    · cases dl with
      | int i => exact absurd rfl c
      | bool b => exact absurd rfl c
      | _ => exact q
abbrev sLIR : Stmt := topS 45
abbrev nLIR : List Str := ["_law_thing", "_law_last", "_law_knot"]
theorem scLIR : FnScope nLIR ["_law_thing"] (defScope sLIR) := ⟨rfl, rfl, rfl, by decide +kernel, rfl, by decide +kernel, by decide +kernel⟩
def spLIR : Sp := fun vs H Q _ => ∃ (v : V) (dl : PyData), vs = [v] ∧ Dt [] H v dl ∧ Q (.bl (isRope dl)) H
theorem ok_lIR (h : Has K mg "_law_is_rope" sLIR) (B : Blt mg) (CW : Can P w K mg base "_law_whole" ["_law_thing", "_law_low", "_law_high"] 1 spLWh) : Can P w K mg base "_law_is_rope" ["_law_thing"] 2 spLIR := by
  obtain ⟨f, fd, F, g⟩ := h
  refine ⟨f, fd, F.ok (k := 1) scLIR (fun vs H Q E h => ?_) (fun cdv A outer s H vs Q E hr h => ?_), g, F.kp, F.binds fun _ _ _ _ _ _ us hl => match us, hl with | [_], _ => rfl⟩
  · obtain ⟨v, dl, rfl, _⟩ := h
    rfl
  · obtain ⟨v, dl, rfl, dv, q⟩ := h
    refine ⟨_, pss_cons (ps_if (PW.pt (pw_or (pt_not (pt_val (pe_callB (call_isD kit_tup) (by rfl) B.isi boot_isinstance (pa_cons (pv 0) (pa_cons (pe_bltn (v := .ty "tuple") (by rfl) B.tuple_ boot_tuple rfl) pa_nil))))) (pw_or (pt_cmpR op_ne (pe_callB call_len_seq (by rfl) B.len_ PySem.boot_len (pa_cons (pv 0) pa_nil)) pe_int (nomark _)) (pw_or1 (pt_not (pt_val (pe_can CW (hr.mono (by decide)) (by rfl) (pa_cons (pe_ix ix_tup (pv 0) pe_int (fun _ _ => rfl)) (pa_cons pe_int (pa_cons (pe_op op_pow pe_int pe_int) pa_nil)))))))))) (pss_one (ps_ret pe_bl)) pss_nil)
      (pss_cons (ps_if (PW.pt (pw_or (pt_not (pt_val (pe_callB (call_isD kit_tup) (by rfl) B.isi boot_isinstance (pa_cons (pe_ix ix_tup (pv 0) pe_int (fun _ _ => rfl)) (pa_cons (pe_bltn (v := .ty "tuple") (by rfl) B.tuple_ boot_tuple rfl) pa_nil))))) (pw_or1 (pt_cmpR op_gt (pe_callB call_len_seq (by rfl) B.len_ PySem.boot_len (pa_cons (pe_ix ix_tup (pv 0) pe_int (fun _ _ => rfl)) pa_nil)) pe_int (nomark _))))) (pss_one (ps_ret pe_bl)) pss_nil)
      (pss_cons (ps_set (i := 1) scLIR.nd rfl (by first | exact Or.inl rfl | exact Or.inr rfl) (pe_un un_neg pe_int))
      (pss_cons (ps_for PassesOwn.never rfl (pi_tup (pe_ix ix_tup (pv 0) pe_int (fun _ _ => rfl))) (pg_name (i := 2) scLIR.nd rfl (by first | exact Or.inl rfl | exact Or.inr rfl))
      (pss_cons (ps_if (PW.pt (pw_or (pt_not (pt_val (pe_callB (call_isD kit_tup) (by rfl) B.isi boot_isinstance (pa_cons (pv 2) (pa_cons (pe_bltn (v := .ty "tuple") (by rfl) B.tuple_ boot_tuple rfl) pa_nil))))) (pw_or (pt_cmpR op_ne (pe_callB call_len_seq (by rfl) B.len_ PySem.boot_len (pa_cons (pv 2) pa_nil)) pe_int (nomark _)) (pw_or1 (pt_not (pt_val (pe_can CW (hr.mono (by decide)) (by rfl) (pa_cons (pe_ix ix_tup (pv 2) pe_int (fun _ _ => rfl)) (pa_cons (pe_op op_add (pv 1) pe_int) (pa_cons (pe_ix ix_tup (pv 0) pe_int (fun _ _ => rfl)) pa_nil)))))))))) (pss_one (ps_ret pe_bl)) pss_nil)
      (pss_cons (ps_if (pt_not (pt_val (pe_can CW (hr.mono (by decide)) (by rfl) (pa_cons (pe_ix ix_tup (pv 2) pe_int (fun _ _ => rfl)) (pa_cons pe_int (pa_cons (pe_op op_pow pe_int pe_int) pa_nil)))))) (pss_one (ps_ret pe_bl)) pss_nil)
      (pss_one (ps_set (i := 1) scLIR.nd rfl (by first | exact Or.inl rfl | exact Or.inr rfl) (pe_ix ix_tup (pv 2) pe_int (fun _ _ => rfl)))))))
      (pss_one (ps_ret pe_bl))))), ?_⟩
    have no : isRope dl = false → Q (.bl false) H := fun h => by rw [h] at q; exact q
    refine ⟨v, rfl, v, dl, [], rfl, dv, _, rfl, ite2 (fun c => ?_) (fun c => ?_)⟩
    · refine ite2 (fun _ => no ?_) (fun h => absurd rfl h)
      cases dl with
      | tuple ds => exact absurd c (by simp [aTup])
      | _ => rfl
    obtain ⟨ds, rfl⟩ : ∃ ds, dl = .tuple ds := by
      cases dl with
      | tuple ds => exact ⟨ds, rfl⟩
      | _ => exact absurd rfl c
    obtain ⟨ta, xs, rfl, _, eta, dxs⟩ := tup_at dv
    have lx := dxs.len
    refine ⟨.ref ta, rfl, ta, xs, rfl, .inr (SqT.of eta), rfl, _, rfl, ite2 (fun c1 => ?_) (fun c1 => ?_)⟩
    · refine ite2 (fun _ => no ?_) (fun h => absurd rfl h)
      unfold isRope
      split
      · rename_i e
        cases e
        rw [lx] at c1
        exact absurd c1 (by simp)
      · rfl
    have l2 : tupOf (.tuple ds) 2 = true := by
      have : ¬ (¬ V.int (xs.length : Int) = V.int 2) := fun h => c1 (by simpa using h)
      have e := V.int.inj (Classical.not_not.mp this)
      rw [lx] at e
      exact decide_eq_true e
    obtain ⟨a, kd, e⟩ := two_of l2
    cases e
    rcases dxs with _ | ⟨da, _ | ⟨dk, _ | _⟩⟩
    rename_i va vk
    refine ⟨.ref ta, rfl, ta, _, 0, va, rfl, rfl, SqT.of eta, atI_nat (j := 0) rfl, 10, 14, rfl, rfl, ⟨by decide, by decide, by decide⟩, ?_⟩
    refine ⟨va, 1, 100000000000000, a, rfl, da, _, rfl, ite2 (fun c2 => ?_) (fun c2 => ?_)⟩
    · refine no ?_
      have w0 : within a 1 100000000000000 = false := by revert c2; cases within a 1 100000000000000 <;> simp
      unfold isRope
      split
      · rename_i e
        cases e
        rw [w0]; rfl
      · rfl
    have w1 : within a 1 100000000000000 = true := by revert c2; cases within a 1 100000000000000 <;> simp
    obtain ⟨l, rfl⟩ := within_int w1
    cases da
    refine ⟨.ref ta, rfl, ta, _, 1, vk, rfl, rfl, SqT.of eta, atI_nat (j := 1) rfl, vk, kd, [], rfl, dk, _, rfl, ite2 (fun c3 => ?_) (fun c3 => ?_)⟩
    · refine ite2 (fun _ => no ?_) (fun h => absurd rfl h)
      cases kd with
      | tuple ds => exact absurd c3 (by simp [aTup])
      | _ => rfl
    obtain ⟨ks, rfl⟩ : ∃ ks, kd = .tuple ks := by
      cases kd with
      | tuple ks => exact ⟨ks, rfl⟩
      | _ => exact absurd rfl c3
    obtain ⟨tk, ku, rfl, _, etk, dku⟩ := tup_at dk
    have lku := dku.len
    have eR : isRope (.tuple [.int l, .tuple ks]) = (risD l 0 ks && decide (ks.length ≤ 4) && ks.all sizB) := by
      show (within (.int l) 1 100000000000000 && risD l 0 ks && decide (ks.length ≤ 4) && ks.all sizB) = _
      rw [w1]; rfl
    refine ⟨.ref ta, rfl, ta, _, 1, .ref tk, rfl, rfl, SqT.of eta, atI_nat (j := 1) rfl, tk, _, rfl, .inr (SqT.of etk), _, _, rfl, rfl, _, rfl, ite2 (fun c5 => ?_) (fun c5 => ?_)⟩
    · refine no (by rw [eR, decide_eq_false (by have := of_decide_eq_true c5; omega), Bool.and_false]; rfl)
    have l4 : ks.length ≤ 4 := by
      have : ¬ (4 : Int) < ku.length := fun h => c5 (decide_eq_true h)
      omega
    rw [eR, decide_eq_true l4, Bool.and_true] at q
    have no2 : risD l 0 ks = false ∨ ks.all sizB = false → Q (.bl false) H := fun h => by
      have : (risD l 0 ks && ks.all sizB) = false := by rcases h with h | h <;> rw [h] <;> simp
      rw [this] at q; exact q
    refine ⟨1, rfl, ?_⟩
    refine ⟨.ref ta, rfl, ta, _, 1, .ref tk, rfl, rfl, SqT.of eta, atI_nat (j := 1) rfl, tk, rfl, ⟨_, SqT.of etk⟩, for_tup (K := K) (a := tk) (xs := ku) (fun t σ M => ∃ (la : Int) (s2 : Option V), σ = [some (.ref ta), some (.int la), s2] ∧ M = H ∧ risD l 0 ks = risD l (la + 1) (ks.drop t) ∧ ks.all sizB = (ks.drop t).all sizB)
      ⟨-1, _, rfl, rfl, by rw [List.drop_zero]; rfl, by rw [List.drop_zero]⟩ (fun t σ M _ z => ?_) (fun t y σ M gy z => ?_) (fun σ M z => ?_)⟩
    · obtain ⟨_, _, rfl, rfl, _⟩ := z
      exact SqT.of etk
    · obtain ⟨la, s2, rfl, rfl, hr', hs'⟩ := z
      obtain ⟨x, gx, dy⟩ := dku.getv t gy
      have hd : ks.drop t = x :: ks.drop (t + 1) := by
        obtain ⟨ht, e⟩ := List.getElem?_eq_some_iff.mp gx
        rw [List.drop_eq_getElem_cons ht, e]
      rw [hd] at hr' hs'
      have nr : (tupOf x 2 = false ∨ ∃ a b, x = .tuple [a, b] ∧ within a (la + 1) l = false) → Q (.bl false) M := fun h => no2 (.inl (hr'.trans (risD_no h)))
      refine ⟨y, rfl, y, x, [], rfl, dy, _, rfl, ite2 (fun c6 => ?_) (fun c6 => ?_)⟩
      · refine ite2 (fun _ => nr (.inl ?_)) (fun h => absurd rfl h)
        cases x with
        | tuple ds => exact absurd c6 (by simp [aTup])
        | _ => rfl
      obtain ⟨ds, rfl⟩ : ∃ ds, x = .tuple ds := by
        cases x with
        | tuple ds => exact ⟨ds, rfl⟩
        | _ => exact absurd rfl c6
      obtain ⟨ya, ys, rfl, _, eya, dys⟩ := tup_at dy
      have ly := dys.len
      refine ⟨.ref ya, rfl, ya, ys, rfl, .inr (SqT.of eya), rfl, _, rfl, ite2 (fun c7 => ?_) (fun c7 => ?_)⟩
      · refine ite2 (fun _ => nr (.inl ?_)) (fun h => absurd rfl h)
        refine decide_eq_false fun h => ?_
        rw [ly, h] at c7
        exact absurd c7 (by simp)
      have l2' : tupOf (.tuple ds) 2 = true := by
        have : ¬ (¬ V.int (ys.length : Int) = V.int 2) := fun h => c7 (by simpa using h)
        have e := V.int.inj (Classical.not_not.mp this)
        rw [ly] at e
        exact decide_eq_true e
      obtain ⟨a', b', e⟩ := two_of l2'
      cases e
      rcases dys with _ | ⟨da', _ | ⟨db', _ | _⟩⟩
      rename_i va' vb'
      refine ⟨.ref ya, rfl, ya, _, 0, va', rfl, rfl, SqT.of eya, atI_nat (j := 0) rfl, .int la, rfl, la, 1, rfl, rfl, .ref ta, rfl, ta, _, 0, .int l, rfl, rfl, SqT.of eta, atI_nat (j := 0) rfl, va', la + 1, l, a', rfl, da', _, rfl, ite2 (fun c8 => ?_) (fun c8 => ?_)⟩
      · exact nr (.inr ⟨a', b', rfl, by revert c8; cases within a' (la + 1) l <;> simp⟩)
      have w' : within a' (la + 1) l = true := by revert c8; cases within a' (la + 1) l <;> simp
      obtain ⟨i, rfl⟩ := within_int w'
      cases da'
      refine ⟨.ref ya, rfl, ya, _, 1, vb', rfl, rfl, SqT.of eya, atI_nat (j := 1) rfl, 10, 6, rfl, rfl, ⟨by decide, by decide, by decide⟩, vb', 1, 1000000, b', rfl, db', _, rfl, ite2 (fun c9 => ?_) (fun c9 => ?_)⟩
      · refine no2 (.inr (hs'.trans ?_))
        have : sizB (.tuple [.int i, b']) = false := by
          show within b' 1 1000000 = false
          revert c9; cases within b' 1 1000000 <;> simp
        rw [List.all_cons, this]; rfl
      have z' : sizB (.tuple [.int i, b']) = true := by
        show within b' 1 1000000 = true
        revert c9; cases within b' 1 1000000 <;> simp
      refine ⟨.ref ya, rfl, ya, _, 0, .int i, rfl, rfl, SqT.of eya, atI_nat (j := 0) rfl, ?_⟩
      exact ⟨i, _, rfl, rfl, hr'.trans (risD_yes w'), hs'.trans (by rw [List.all_cons, z']; rfl)⟩
    · obtain ⟨la, s2, rfl, rfl, hr', hs'⟩ := z
      rw [lku, List.drop_length] at hr' hs'
      have : (risD l 0 ks && ks.all sizB) = true := by rw [hr', hs']; rfl
      rw [this] at q; exact q
end
end Rw

namespace Rw
open PySem PySem.Spec PyProof.Rows L2
theorem of_set {i : Nat} {v : V} {f : L2.St → Hp → Prop} {r : VK} {b c : L2.St → Hp → Prop} {σ : L2.St} {H : Hp} (h : f (σ.set i (some v)) H) : gName i v σ H ({ nx := f, rt := r, bk := b, ct := c } : Ends).nx := h
def odE : List PyData := [.none, .bool true, .bool false, .int 0, .int (-1), .str "", .str "1", .tuple [], .list [], .dict [], .tuple [.int 0], .list [.int 0], .tuple [.int 0, .int 1], .tuple [.tuple [.int 0, .int 1]], .tuple [.tuple [.int 0, .int 1], .tuple [.int 0, .int 2]], .int (10 ^ Int.toNat 15)]
section
variable {P : Program} {w : World} {K : PySem.W.Frag} {mg : Str → Option Value} {base : Heap}
abbrev sOdd : Stmt := topS 43
abbrev nOdd : List Str := ["_law_stream_here", "_law_odd_here"]
theorem scOdd : FnScope nOdd ["_law_stream_here"] (defScope sOdd) := ⟨rfl, rfl, rfl, by decide +kernel, rfl, by decide +kernel, by decide +kernel⟩
def spOdd : Sp := fun vs H Q _ => ∃ (D C : Addr) (b : Int), vs = [.ref D] ∧ Dq H D C b ∧ b ≤ 950000 ∧
  ∀ (H' : Hp) (v : V) (dv : PyData), Keep [D] H H' → Dq H' D C (b + 1) → Dt [D] H' v dv → dv ∈ odE → Q v H'
theorem ok_odd (h : Has K mg "_law_odd" sOdd) (B : Blt mg) (CT : Can P w K mg base "_law_take" ["_law_stream_here", "_law_below"] 1 spTk) : Can P w K mg base "_law_odd" ["_law_stream_here"] 2 spOdd := by
  obtain ⟨f, fd, F, g⟩ := h
  refine ⟨f, fd, F.ok (k := 1) scOdd (fun vs H Q E h => ?_) (fun cdv A outer s H vs Q E hr h => ?_), g, F.kp, F.binds fun _ _ _ _ _ _ us hl => match us, hl with | [_], _ => rfl⟩
  · obtain ⟨D, C, b, rfl, _⟩ := h
    rfl
  · obtain ⟨D, C, b, rfl, dk, hb, q⟩ := h
    refine ⟨_, pss_cons (ps_set (i := 1) scOdd.nd rfl (by first | exact Or.inl rfl | exact Or.inr rfl) (pe_lst (pa_cons pe_non (pa_cons pe_bl (pa_cons pe_bl (pa_cons pe_int (pa_cons (pe_un un_neg pe_int) (pa_cons pe_str (pa_cons pe_str (pa_cons (pe_tup pa_nil) (pa_cons (pe_lst pa_nil) (pa_cons pe_dnewK (pa_cons (pe_tup (pa_cons pe_int pa_nil)) (pa_cons (pe_lst (pa_cons pe_int pa_nil)) (pa_cons (pe_tup (pa_cons pe_int (pa_cons pe_int pa_nil))) (pa_cons (pe_tup (pa_cons (pe_tup (pa_cons pe_int (pa_cons pe_int pa_nil))) pa_nil)) (pa_cons (pe_tup (pa_cons (pe_tup (pa_cons pe_int (pa_cons pe_int pa_nil))) (pa_cons (pe_tup (pa_cons pe_int (pa_cons pe_int pa_nil))) pa_nil))) (pa_cons (pe_op op_pow pe_int pe_int) pa_nil))))))))))))))))))
      (pss_one (ps_ret (pe_ix ix_list (pv 1) (pe_can CT (hr.mono (by decide)) (by rfl) (pa_cons (pv 0) (pa_cons pe_int pa_nil))) (fun _ _ => rfl)))), ?_⟩
    refine ⟨1, rfl, show 0 ≤ sizeLine by decide, fun T1 n1 => ?_⟩
    have M1 : T1 ∉ [D] := fun m => ((dk.keep (Keep.refl _ _)).nes n1).1 (List.mem_singleton.mp m)
    have k1 : Keep [] H (upd H T1 (.tup [])) := Keep.new n1
    have e1 : (upd H T1 (.tup [])) T1 = some (.tup []) := upd_same
    generalize upd H T1 (.tup []) = G1 at k1 e1 ⊢
    refine ⟨show 0 ≤ sizeLine by decide, fun T2 n2 => ?_⟩
    have M2 : T2 ∉ [D] := fun m => ((dk.keep k1).nes n2).1 (List.mem_singleton.mp m)
    have k2 : Keep [] G1 (upd G1 T2 (.lst [])) := Keep.new n2
    have e2 : (upd G1 T2 (.lst [])) T2 = some (.lst []) := upd_same
    generalize upd G1 T2 (.lst []) = G2 at k2 e2 ⊢
    refine fun T3 n3 => ?_
    have M3 : T3 ∉ [D] := fun m => ((dk.keep (k1.trans k2)).nes n3).1 (List.mem_singleton.mp m)
    have k3 : Keep [] G2 (upd G2 T3 (.dK [])) := Keep.new n3
    have e3 : (upd G2 T3 (.dK [])) T3 = some (.dK []) := upd_same
    generalize upd G2 T3 (.dK []) = G3 at k3 e3 ⊢
    refine ⟨show 1 ≤ sizeLine by decide, fun T4 n4 => ?_⟩
    have M4 : T4 ∉ [D] := fun m => ((dk.keep (k1.trans (k2.trans k3))).nes n4).1 (List.mem_singleton.mp m)
    have k4 : Keep [] G3 (upd G3 T4 (.tup [.int 0])) := Keep.new n4
    have e4 : (upd G3 T4 (.tup [.int 0])) T4 = some (.tup [.int 0]) := upd_same
    generalize upd G3 T4 (.tup [.int 0]) = G4 at k4 e4 ⊢
    refine ⟨show 1 ≤ sizeLine by decide, fun T5 n5 => ?_⟩
    have M5 : T5 ∉ [D] := fun m => ((dk.keep (k1.trans (k2.trans (k3.trans k4)))).nes n5).1 (List.mem_singleton.mp m)
    have k5 : Keep [] G4 (upd G4 T5 (.lst [.int 0])) := Keep.new n5
    have e5 : (upd G4 T5 (.lst [.int 0])) T5 = some (.lst [.int 0]) := upd_same
    generalize upd G4 T5 (.lst [.int 0]) = G5 at k5 e5 ⊢
    refine ⟨show 2 ≤ sizeLine by decide, fun T6 n6 => ?_⟩
    have M6 : T6 ∉ [D] := fun m => ((dk.keep (k1.trans (k2.trans (k3.trans (k4.trans k5))))).nes n6).1 (List.mem_singleton.mp m)
    have k6 : Keep [] G5 (upd G5 T6 (.tup [.int 0, .int 1])) := Keep.new n6
    have e6 : (upd G5 T6 (.tup [.int 0, .int 1])) T6 = some (.tup [.int 0, .int 1]) := upd_same
    generalize upd G5 T6 (.tup [.int 0, .int 1]) = G6 at k6 e6 ⊢
    refine ⟨show 2 ≤ sizeLine by decide, fun T7 n7 => ?_⟩
    have M7 : T7 ∉ [D] := fun m => ((dk.keep (k1.trans (k2.trans (k3.trans (k4.trans (k5.trans k6)))))).nes n7).1 (List.mem_singleton.mp m)
    have k7 : Keep [] G6 (upd G6 T7 (.tup [.int 0, .int 1])) := Keep.new n7
    have e7 : (upd G6 T7 (.tup [.int 0, .int 1])) T7 = some (.tup [.int 0, .int 1]) := upd_same
    generalize upd G6 T7 (.tup [.int 0, .int 1]) = G7 at k7 e7 ⊢
    refine ⟨show 1 ≤ sizeLine by decide, fun T8 n8 => ?_⟩
    have M8 : T8 ∉ [D] := fun m => ((dk.keep (k1.trans (k2.trans (k3.trans (k4.trans (k5.trans (k6.trans k7))))))).nes n8).1 (List.mem_singleton.mp m)
    have k8 : Keep [] G7 (upd G7 T8 (.tup [.ref T7])) := Keep.new n8
    have e8 : (upd G7 T8 (.tup [.ref T7])) T8 = some (.tup [.ref T7]) := upd_same
    generalize upd G7 T8 (.tup [.ref T7]) = G8 at k8 e8 ⊢
    refine ⟨show 2 ≤ sizeLine by decide, fun T9 n9 => ?_⟩
    have M9 : T9 ∉ [D] := fun m => ((dk.keep (k1.trans (k2.trans (k3.trans (k4.trans (k5.trans (k6.trans (k7.trans k8)))))))).nes n9).1 (List.mem_singleton.mp m)
    have k9 : Keep [] G8 (upd G8 T9 (.tup [.int 0, .int 1])) := Keep.new n9
    have e9 : (upd G8 T9 (.tup [.int 0, .int 1])) T9 = some (.tup [.int 0, .int 1]) := upd_same
    generalize upd G8 T9 (.tup [.int 0, .int 1]) = G9 at k9 e9 ⊢
    refine ⟨show 2 ≤ sizeLine by decide, fun T10 n10 => ?_⟩
    have M10 : T10 ∉ [D] := fun m => ((dk.keep (k1.trans (k2.trans (k3.trans (k4.trans (k5.trans (k6.trans (k7.trans (k8.trans k9))))))))).nes n10).1 (List.mem_singleton.mp m)
    have k10 : Keep [] G9 (upd G9 T10 (.tup [.int 0, .int 2])) := Keep.new n10
    have e10 : (upd G9 T10 (.tup [.int 0, .int 2])) T10 = some (.tup [.int 0, .int 2]) := upd_same
    generalize upd G9 T10 (.tup [.int 0, .int 2]) = G10 at k10 e10 ⊢
    refine ⟨show 2 ≤ sizeLine by decide, fun T11 n11 => ?_⟩
    have M11 : T11 ∉ [D] := fun m => ((dk.keep (k1.trans (k2.trans (k3.trans (k4.trans (k5.trans (k6.trans (k7.trans (k8.trans (k9.trans k10)))))))))).nes n11).1 (List.mem_singleton.mp m)
    have k11 : Keep [] G10 (upd G10 T11 (.tup [.ref T9, .ref T10])) := Keep.new n11
    have e11 : (upd G10 T11 (.tup [.ref T9, .ref T10])) T11 = some (.tup [.ref T9, .ref T10]) := upd_same
    generalize upd G10 T11 (.tup [.ref T9, .ref T10]) = G11 at k11 e11 ⊢
    refine ⟨10, 15, rfl, rfl, ⟨by decide, by decide, by decide⟩, show 16 ≤ sizeLine by decide, fun T12 n12 => ?_⟩
    have M12 : T12 ∉ [D] := fun m => ((dk.keep (k1.trans (k2.trans (k3.trans (k4.trans (k5.trans (k6.trans (k7.trans (k8.trans (k9.trans (k10.trans k11))))))))))).nes n12).1 (List.mem_singleton.mp m)
    have k12 : Keep [] G11 (upd G11 T12 (.lst [.non, .bl true, .bl false, .int 0, .int (-1), .str "", .str "1", .ref T1, .ref T2, .ref T3, .ref T4, .ref T5, .ref T6, .ref T8, .ref T11, .int (10 ^ Int.toNat 15)])) := Keep.new n12
    have e12 : (upd G11 T12 (.lst [.non, .bl true, .bl false, .int 0, .int (-1), .str "", .str "1", .ref T1, .ref T2, .ref T3, .ref T4, .ref T5, .ref T6, .ref T8, .ref T11, .int (10 ^ Int.toNat 15)])) T12 = some (.lst [.non, .bl true, .bl false, .int 0, .int (-1), .str "", .str "1", .ref T1, .ref T2, .ref T3, .ref T4, .ref T5, .ref T6, .ref T8, .ref T11, .int (10 ^ Int.toNat 15)]) := upd_same
    generalize upd G11 T12 (.lst [.non, .bl true, .bl false, .int 0, .int (-1), .str "", .str "1", .ref T1, .ref T2, .ref T3, .ref T4, .ref T5, .ref T6, .ref T8, .ref T11, .int (10 ^ Int.toNat 15)]) = G12 at k12 e12 ⊢
    have K12 : Keep [] G12 G12 := Keep.refl _ _
    have K11 : Keep [] G11 G12 := k12.trans K12
    have K10 : Keep [] G10 G12 := k11.trans K11
    have K9 : Keep [] G9 G12 := k10.trans K10
    have K8 : Keep [] G8 G12 := k9.trans K9
    have K7 : Keep [] G7 G12 := k8.trans K8
    have K6 : Keep [] G6 G12 := k7.trans K7
    have K5 : Keep [] G5 G12 := k6.trans K6
    have K4 : Keep [] G4 G12 := k5.trans K5
    have K3 : Keep [] G3 G12 := k4.trans K4
    have K2 : Keep [] G2 G12 := k3.trans K3
    have K1 : Keep [] G1 G12 := k2.trans K2
    have dL : Dts [D] G12 ([.non, .bl true, .bl false, .int 0, .int (-1), .str "", .str "1", .ref T1, .ref T2, .ref T3, .ref T4, .ref T5, .ref T6, .ref T8, .ref T11, .int (10 ^ Int.toNat 15)] : List V) odE := (.cons .non (.cons (.bl _) (.cons (.bl _) (.cons (.int _) (.cons (.int _) (.cons (.str _) (.cons (.str _) (.cons (.tup M1 (K1 _ _ e1 List.not_mem_nil) .nil) (.cons (.lst M2 (K2 _ _ e2 List.not_mem_nil) .nil) (.cons (.dct M3 (K3 _ _ e3 List.not_mem_nil)) (.cons (.tup M4 (K4 _ _ e4 List.not_mem_nil) (.cons (.int _) .nil)) (.cons (.lst M5 (K5 _ _ e5 List.not_mem_nil) (.cons (.int _) .nil)) (.cons (.tup M6 (K6 _ _ e6 List.not_mem_nil) (.cons (.int _) (.cons (.int _) .nil))) (.cons (.tup M8 (K8 _ _ e8 List.not_mem_nil) (.cons (.tup M7 (K7 _ _ e7 List.not_mem_nil) (.cons (.int _) (.cons (.int _) .nil))) .nil)) (.cons (.tup M11 (K11 _ _ e11 List.not_mem_nil) (.cons (.tup M9 (K9 _ _ e9 List.not_mem_nil) (.cons (.int _) (.cons (.int _) .nil))) (.cons (.tup M10 (K10 _ _ e10 List.not_mem_nil) (.cons (.int _) (.cons (.int _) .nil))) .nil))) (.cons (.int _) .nil))))))))))))))))
    have kE : Keep [] H G12 := k1.trans K1
    generalize ([.non, .bl true, .bl false, .int 0, .int (-1), .str "", .str "1", .ref T1, .ref T2, .ref T3, .ref T4, .ref T5, .ref T6, .ref T8, .ref T11, .int (10 ^ Int.toNat 15)] : List V) = xs at e12 dL ⊢
    refine of_set ?_
    have lx : xs.length = 16 := by rw [dL.len]; rfl
    refine ⟨.ref T12, rfl, .ref D, rfl, D, C, b, 16, rfl, by decide, by decide, dk.keep kE, by omega, fun H2 x k2 d2 x0 x1 => ?_⟩
    have gx := List.getElem?_eq_getElem (show x.toNat < xs.length by omega)
    obtain ⟨de, gd, dv⟩ := (dL.keep k2).getv _ gx
    generalize xs[x.toNat]'(show x.toNat < xs.length by omega) = v at gx dv
    exact ⟨T12, xs, x, v, rfl, rfl, SqL.of (k2 _ _ e12 M12), atI_of x0 gx, q _ v de (kE.of.trans k2) d2 dv (List.mem_of_getElem? gd)⟩
end
end Rw

namespace Rw
open PySem PySem.Spec PyProof.Rows L2
/-! trees of tuples of ints, and what a bend makes of them -/
def cI : Int := 100000000000000000
inductive TI : Nat → PyData → Prop
  | int (k : Nat) {i : Int} : -cI ≤ i → i ≤ cI → TI k (.int i)
  | tup {k : Nat} {ds : List PyData} : ds.length ≤ 6 → (∀ d ∈ ds, TI k d) → TI (k + 1) (.tuple ds)
theorem TI.no0 (ds : List PyData) : ¬ TI 0 (.tuple ds) := fun h => by cases h
def Wt : Nat → Nat
  | 0 => 24
  | k + 1 => 6 * (Wt k + 2) + 3
theorem Wt_pos : ∀ k, 24 ≤ Wt k
  | 0 => Nat.le_refl _
  | k + 1 => by
    have := Wt_pos k
    simp only [Wt]; omega
theorem nlAll_of : ∀ {ds : List PyData}, (∀ d ∈ ds, nlB d = true) → nlAll ds = true
  | [], _ => rfl
  | d :: ds, h => by
    simp only [nlAll, h d List.mem_cons_self, nlAll_of fun x m => h x (List.mem_cons_of_mem _ m), Bool.and_self]
theorem nd_anyJ : ∀ ds : List PyData, PyData.hasDictAll ds = true → ∃ y ∈ ds, y.hasDict = true
  | [], h => by simp only [PyData.hasDictAll] at h; cases h
  | d :: ds, h => by
    simp only [PyData.hasDictAll, Bool.or_eq_true] at h
    rcases h with h | h
    · exact ⟨d, List.mem_cons_self, h⟩
    · obtain ⟨y, m, e⟩ := nd_anyJ ds h
      exact ⟨y, List.mem_cons_of_mem _ m, e⟩
theorem nd_tup {ds : List PyData} (h : ∀ d ∈ ds, d.hasDict = false) : PyData.hasDictAll ds = false := by
  cases e : PyData.hasDictAll ds with
  | false => rfl
  | true =>
    obtain ⟨y, m, e'⟩ := nd_anyJ ds e
    rw [h y m] at e'; cases e'
theorem TI.facts {k : Nat} {d : PyData} (h : TI k d) : Od k cI d ∧ nlB d = true ∧ wt d ≤ Wt k ∧ d.hasDict = false := by
  induction h with
  | int k a b => exact ⟨.int _ _ a b, rfl, by simp only [wt]; exact Wt_pos k, by simp only [PyData.hasDict]⟩
  | @tup k ds ln _ ih =>
    refine ⟨.tup fun d m => (ih d m).1, by simp only [nlB]; exact nlAll_of fun d m => (ih d m).2.1, ?_, by simp only [PyData.hasDict]; exact nd_tup fun d m => (ih d m).2.2.2⟩
    have := wtA_le (b := Wt k) (xs := ds) fun d m => (ih d m).2.2.1
    simp only [wt, Wt]
    have : ds.length * (Wt k + 2) ≤ 6 * (Wt k + 2) := Nat.mul_le_mul ln (Nat.le_refl _)
    omega
/-- what a bend makes of a tree of k levels -/
structure Bnt (k : Nat) (d : PyData) : Prop where
  od : Od (k + 2) cI d
  wt : wt d ≤ 2 * Wt k + 300
  nl : d.hasDict = true → nlB d = true
theorem Bnt.of {k : Nat} {d : PyData} (h : TI k d) : Bnt k d := by
  obtain ⟨a, b, c, e⟩ := h.facts
  exact ⟨a.mono (by omega) (Int.le_refl _), by omega, fun _ => b⟩
theorem Bnt.lst {k : Nat} {ds : List PyData} (h : TI (k + 1) (.tuple ds)) : Bnt (k + 1) (.list ds) := by
  obtain ⟨a, b, c, e⟩ := h.facts
  refine ⟨?_, ?_, fun z => ?_⟩
  · cases a with
    | tup a => exact (Od.lst a).mono (by omega) (Int.le_refl _)
  · simp only [Rw.wt] at c ⊢
    omega
  · simp only [PyData.hasDict] at z e
    rw [e] at z; cases z
theorem Bnt.put {k : Nat} {ds xs : List PyData} {p : PyData} (h : TI (k + 1) (.tuple ds)) (hp : Bnt k p) (hx : ∀ x ∈ xs, x ∈ ds ∨ x = p) (hw : wtA xs ≤ wtA ds + Rw.wt p + 2) : Bnt (k + 1) (.tuple xs) := by
  obtain ⟨a, b, c, e⟩ := h.facts
  have hd : ∀ x ∈ ds, TI k x := by cases h with | tup _ h => exact h
  refine ⟨.tup fun x m => ?_, ?_, fun z => ?_⟩
  · rcases hx x m with m | rfl
    · exact (hd x m).facts.1.mono (by omega) (Int.le_refl _)
    · exact hp.od
  · have := hp.wt
    simp only [Rw.wt, Wt] at c ⊢
    omega
  · simp only [PyData.hasDict] at z
    obtain ⟨y, my, ey⟩ := nd_anyJ xs z
    have hy : nlB p = true := by
      rcases hx y my with m | rfl
      · rw [(hd y m).facts.2.2.2] at ey; cases ey
      · exact hp.nl ey
    simp only [nlB]
    refine nlAll_of fun x m => ?_
    rcases hx x m with m | rfl
    · exact (hd x m).facts.2.1
    · exact hy
theorem Bnt.odd {k : Nat} {d : PyData} (h : d ∈ odE) : Bnt k d := by
  have oi : ∀ {m : Nat} (i : Int), -cI ≤ i ∧ i ≤ cI → Od m cI (.int i) := fun i h => .int _ _ h.1 h.2
  have key : Od 2 cI d ∧ Rw.wt d ≤ 300 ∧ (d.hasDict = true → nlB d = true) := by
    simp only [odE, List.mem_cons, List.not_mem_nil, or_false] at h
    have o2 : ∀ {m : Nat} (a b : Int), (-cI ≤ a ∧ a ≤ cI) → (-cI ≤ b ∧ b ≤ cI) → Od (m + 1) cI (.tuple [.int a, .int b]) := fun a b ha hb => .tup fun d m => by
      rcases List.mem_cons.mp m with rfl | m
      · exact oi _ ha
      · rw [List.mem_singleton.mp m]; exact oi _ hb
    rcases h with rfl | rfl | rfl | rfl | rfl | rfl | rfl | rfl | rfl | rfl | rfl | rfl | rfl | rfl | rfl | rfl
    · exact ⟨.non _ _, by decide, by decide⟩
    · exact ⟨.bool _ _ _, by decide, by decide⟩
    · exact ⟨.bool _ _ _, by decide, by decide⟩
    · exact ⟨oi _ (by decide), by decide, by decide⟩
    · exact ⟨oi _ (by decide), by decide, by decide⟩
    · exact ⟨.str _ _ (.inl rfl), by decide, by decide⟩
    · exact ⟨.str _ _ (.inr (.inr (.inr (.inr rfl)))), by decide, by decide⟩
    · exact ⟨.tup (fun _ m => absurd m List.not_mem_nil), by decide, by decide⟩
    · exact ⟨.lst (fun _ m => absurd m List.not_mem_nil), by decide, by decide⟩
    · exact ⟨.dct _ _, by decide, by decide⟩
    · exact ⟨.tup (fun d m => by rw [List.mem_singleton.mp m]; exact oi _ (by decide)), by decide, by decide⟩
    · exact ⟨.lst (fun d m => by rw [List.mem_singleton.mp m]; exact oi _ (by decide)), by decide, by decide⟩
    · exact ⟨o2 _ _ (by decide) (by decide), by decide, by decide⟩
    · exact ⟨.tup (fun d m => by rw [List.mem_singleton.mp m]; exact o2 _ _ (by decide) (by decide)), by decide, by decide⟩
    · exact ⟨.tup (fun d m => by
        rcases List.mem_cons.mp m with rfl | m
        · exact o2 _ _ (by decide) (by decide)
        · rw [List.mem_singleton.mp m]; exact o2 _ _ (by decide) (by decide)), by decide, by decide⟩
    · exact ⟨oi _ (by decide), by decide, by decide⟩
  exact ⟨key.1.mono (by omega) (Int.le_refl _), by omega, key.2.2⟩
theorem seq_case {a R : TS} {D : Ends} {σ : L2.St} {H : Hp} (Post : L2.St → Hp → Prop) (h1 : ∀ σ' H', Post σ' H' → R D σ' H') (h2 : ∀ N : L2.St → Hp → Prop, (∀ σ' H', Post σ' H' → N σ' H') → a { D with nx := N } σ H) : tSeq a R D σ H := h2 _ h1
theorem if_gen {t : TT} {a b : TS} {D : Ends} {σ : L2.St} {H : Hp} (R : Bool → Hp → Prop) (all : ∀ k X, R k X → if k = true then a D σ X else b D σ X) (first : ∀ Q : Bool → Hp → Prop, (∀ k X, R k X → Q k X) → t σ H Q) : tIfS t a b D σ H := first _ all
theorem cons_gen {ta : TE} {tr : L2.TA} {σ : L2.St} {H : Hp} {Q : List V → Hp → Prop} (R : V → Hp → Prop) (all : ∀ x X, R x X → tr σ X fun xs H2 => Q (x :: xs) H2) (first : ∀ Q' : VK, (∀ x X, R x X → Q' x X) → ta σ H Q') : tCons ta tr σ H Q := first _ all
theorem gn_set {i : Nat} {v : V} {f : L2.St → Hp → Prop} {σ : L2.St} {H : Hp} (h : f (σ.set i (some v)) H) : gName i v σ H f := h
section
variable {P : Program} {w : World} {K : PySem.W.Frag} {mg : Str → Option Value} {base : Heap}
abbrev sBen : Stmt := topS 47
abbrev nBen : List Str := ["_law_stream_here", "_law_thing", "_law_at", "_law_piece", "_law_some"]
theorem scBen : FnScope nBen ["_law_stream_here", "_law_thing"] (defScope sBen) := ⟨rfl, rfl, rfl, by decide +kernel, rfl, by decide +kernel, by decide +kernel⟩
def spBen (k : Nat) : Sp := fun vs H Q _ => ∃ (D C : Addr) (b : Int) (v : V) (ds : List PyData), vs = [.ref D, v] ∧ Dq H D C b ∧ b + 10 * k ≤ 940000 ∧ Dt [D] H v (.tuple ds) ∧ ds ≠ [] ∧ TI k (.tuple ds) ∧
  ∀ (H' : Hp) (r : V) (dr : PyData), Keep [D] H H' → Dq H' D C (b + 10 * k) → Dt [D] H' r dr → Bnt k dr → Q r H'
theorem ok_benS (h : Has K mg "_law_bent" sBen) (m : Nat) (B : Blt mg) (CT : Can P w K mg base "_law_take" ["_law_stream_here", "_law_below"] 1 spTk) (CO : Can P w K mg base "_law_odd" ["_law_stream_here"] 2 spOdd) (C0 : Can P w K mg base "_law_bent" ["_law_stream_here", "_law_thing"] (m + 3) (spBen m)) : Can P w K mg base "_law_bent" ["_law_stream_here", "_law_thing"] (m + 4) (spBen (m + 1)) := by
  obtain ⟨f, fd, F, g⟩ := h
  refine ⟨f, fd, F.ok (k := m + 3) scBen (fun vs H Q E h => ?_) (fun cdv A outer s H vs Q E hr h => ?_), g, F.kp, F.binds fun _ _ _ _ _ _ us hl => match us, hl with | [_, _], _ => rfl⟩
  · obtain ⟨D, C, b, v, ds, rfl, _⟩ := h
    rfl
  · obtain ⟨D, C, b, v, ds, rfl, dk, hb, dv, ne, ti, q⟩ := h
    refine ⟨_, pss_cons (ps_set (i := 2) scBen.nd rfl (by first | exact Or.inl rfl | exact Or.inr rfl) (pe_can CT (hr.mono (by omega)) (by rfl) (pa_cons (pv 0) (pa_cons (pe_callB call_len_seq (by rfl) B.len_ PySem.boot_len (pa_cons (pv 1) pa_nil)) pa_nil))))
      (pss_cons (ps_set (i := 3) scBen.nd rfl (by first | exact Or.inl rfl | exact Or.inr rfl) (pe_ix ix_tup (pv 1) (pv 2) (fun _ _ => rfl)))
      (pss_cons (ps_if (PW.pt (pw_and (pt_val (pe_callB (call_isD kit_tup) (by rfl) B.isi boot_isinstance (pa_cons (pv 3) (pa_cons (pe_bltn (v := .ty "tuple") (by rfl) B.tuple_ boot_tuple rfl) pa_nil)))) (pw_and (pt_cmpR op_gt (pe_callB call_len_seq (by rfl) B.len_ PySem.boot_len (pa_cons (pv 3) pa_nil)) pe_int (nomark _)) (pw_and1 (pt_cmpR op_eq (pe_can CT (hr.mono (by omega)) (by rfl) (pa_cons (pv 0) (pa_cons pe_int pa_nil))) pe_int (nomark _)))))) (pss_one (ps_set (i := 3) scBen.nd rfl (by first | exact Or.inl rfl | exact Or.inr rfl) (pe_can C0 (hr.mono (by omega)) (by rfl) (pa_cons (pv 0) (pa_cons (pv 3) pa_nil))))) (pss_one (ps_set (i := 3) scBen.nd rfl (by first | exact Or.inl rfl | exact Or.inr rfl) (pe_ix ix_list (pe_lst (pa_cons (pe_can CO (hr.mono (by omega)) (by rfl) (pa_cons (pv 0) pa_nil)) (pa_cons (pe_ifExp (pt_val (pe_callB (call_isD kit_tup) (by rfl) B.isi boot_isinstance (pa_cons (pv 3) (pa_cons (pe_bltn (v := .ty "tuple") (by rfl) B.tuple_ boot_tuple rfl) pa_nil)))) (pe_callTy call_list_of (by rfl) B.list_ boot_list (pa_cons (pv 3) pa_nil)) (pv 3)) pa_nil))) (pe_can CT (hr.mono (by omega)) (by rfl) (pa_cons (pv 0) (pa_cons pe_int pa_nil))) (fun _ _ => rfl)))))
      (pss_cons (ps_set (i := 4) scBen.nd rfl (by first | exact Or.inl rfl | exact Or.inr rfl) (pe_lst (pa_cons (pe_op op_catA (pe_op op_catA (pe_slice sl_tupA (pv 1) po_none (po_some (pv 2))) (pe_tup (pa_cons (pv 3) pa_nil))) (pe_slice sl_tupA (pv 1) (po_some (pe_op op_add (pv 2) pe_int)) po_none)) (pa_cons (pe_op op_catA (pe_slice sl_tupA (pv 1) po_none (po_some (pv 2))) (pe_slice sl_tupA (pv 1) (po_some (pe_op op_add (pv 2) pe_int)) po_none)) (pa_cons (pe_op op_catA (pv 1) (pe_tup (pa_cons (pv 3) pa_nil))) (pa_cons (pe_callTy call_list_of (by rfl) B.list_ boot_list (pa_cons (pv 1) pa_nil)) pa_nil))))))
      (pss_one (ps_ret (pe_ix ix_list (pv 4) (pe_ix ix_list (pe_lst (pa_cons pe_int (pa_cons pe_int (pa_cons pe_int (pa_cons pe_int (pa_cons pe_int (pa_cons pe_int (pa_cons pe_int pa_nil)))))))) (pe_can CT (hr.mono (by omega)) (by rfl) (pa_cons (pv 0) (pa_cons pe_int pa_nil))) (fun _ _ => rfl)) (fun _ _ => rfl))))))), ?_⟩
    obtain ⟨T, xs, rfl, nT, eT, dxs⟩ := tup_at dv
    have lx := dxs.len
    have tds : ∀ d ∈ ds, TI m d := by cases ti with | tup _ h => exact h
    have l6 : ds.length ≤ 6 := by cases ti with | tup h _ => exact h
    have l1 : 1 ≤ ds.length := by
      cases ds with
      | nil => exact absurd rfl ne
      | cons => simp
    have av0 : ∀ {G : Hp} {c : Int}, Dq G D C c → ∀ a ∈ [D], G a ≠ none := fun {G c} dG a ma e => by
      rw [List.mem_singleton.mp ma] at e
      exact (dG.nes e).1 rfl
    rw [show L2.start nBen [.ref D, .ref T] = [some (.ref D), some (.ref T), none, none, none] from rfl]
    refine ⟨.ref D, rfl, .ref T, rfl, T, xs, rfl, .inr (SqT.of eT), D, C, b, xs.length, rfl, by omega, by omega, dk, by omega, fun H1 at' k1 d1 a0 a1 => ?_⟩
    refine of_set ?_
    dsimp only [List.set]
    obtain ⟨i, rfl⟩ : ∃ i : Nat, at' = i := ⟨at'.toNat, by omega⟩
    have hi : i < xs.length := by omega
    have gx : xs[i]? = some xs[i] := List.getElem?_eq_getElem hi
    obtain ⟨vx, hvx⟩ : ∃ vx, vx = xs[i] := ⟨_, rfl⟩
    rw [← hvx] at gx
    have eT1 : H1 T = some (.tup xs) := k1 _ _ eT nT
    obtain ⟨dp, gd, dpx⟩ := (dxs.keep k1).getv i gx
    have tp := tds dp (List.mem_of_getElem? gd)
    refine ⟨.ref T, rfl, .int i, rfl, T, xs, i, vx, rfl, rfl, SqT.of eT1, atI_of (by omega) (by simpa using gx), ?_⟩
    refine of_set ?_
    dsimp only [List.set]
    refine seq_case (Post := fun σ' H' => ∃ (p : V) (dq : PyData), σ' = [some (.ref D), some (.ref T), some (.int i), some p, none] ∧ Keep [D] H1 H' ∧ Dq H' D C (b + 10 * m + 5) ∧ Dt [D] H' p dq ∧ Bnt m dq) (fun σ' J hJ => ?_) (fun N hN => ?_)
    rotate_left
    · refine if_gen (R := fun k X => Keep [D] H1 X ∧ Dq X D C (b + 2) ∧ (k = true → ∃ es, dp = .tuple es ∧ es ≠ [])) (fun k X hR => ?_) (fun Q' hQ => ?_)
      rotate_left
      · refine ⟨vx, rfl, vx, dp, [D], rfl, dpx, _, rfl, ite2 (fun c => ?_) (fun c => ?_)⟩
        · obtain ⟨es, rfl⟩ : ∃ es, dp = .tuple es := by
            cases dp with
            | tuple es => exact ⟨es, rfl⟩
            | _ => cases c
          obtain ⟨Te, ys, rfl, nTe, eTe, dys⟩ := tup_at dpx
          have ly := dys.len
          refine ⟨.ref Te, rfl, Te, ys, rfl, .inr (SqT.of eTe), _, _, rfl, rfl, _, rfl, ite2 (fun c2 => ?_) (fun c2 => ?_)⟩
          · have c2 := of_decide_eq_true c2
            have nes : es ≠ [] := fun z => by
              subst z
              rw [ly] at c2
              exact absurd c2 (by simp)
            refine ⟨.ref D, rfl, D, C, _, 2, rfl, by decide, by decide, d1, by omega, fun H2 u k2 d2 u0 u1 => ⟨rfl, _, rfl, ?_⟩⟩
            exact hQ _ _ ⟨k2, d2.mono (by omega), fun _ => ⟨es, rfl, nes⟩⟩
          · exact hQ _ _ ⟨Keep.refl _ _, d1.mono (by omega), fun z => by cases z⟩
        · exact hQ _ _ ⟨Keep.refl _ _, d1.mono (by omega), fun z => by cases z⟩
      · obtain ⟨kX, dX, hk⟩ := hR
        have dpX := dpx.keep kX
        refine ite2 (fun c => ?_) (fun c => ?_)
        · obtain ⟨es, rfl, nes⟩ := hk c
          refine ⟨.ref D, rfl, vx, rfl, D, C, _, vx, es, rfl, dX, by omega, dpX, nes, tp, fun H3 r dr k3 d3 hd bn => ?_⟩
          exact hN _ _ ⟨r, dr, rfl, kX.trans k3, d3.mono (by omega), hd, bn⟩
        · refine ⟨.ref D, rfl, D, C, _, rfl, dX, by omega, fun X1 vo dvo ko dko dto mo => ?_⟩
          refine cons_gen (R := fun v2 X => Keep [D] X1 X ∧ Dq X D C (b + 3) ∧ ∃ d2, Dt [D] X v2 d2 ∧ Bnt m d2) (fun v2 X2 hR2 => ?_) (fun Q2 hQ2 => ?_)
          rotate_left
          · have dp1 := dpX.keep ko
            refine ⟨vx, rfl, vx, dp, [D], rfl, dp1, _, rfl, ite2 (fun c => ?_) (fun c => ?_)⟩
            · obtain ⟨es, rfl⟩ : ∃ es, dp = .tuple es := by
                cases dp with
                | tuple es => exact ⟨es, rfl⟩
                | _ => cases c
              obtain ⟨Te, ys, rfl, nTe, eTe, dys⟩ := tup_at dp1
              refine ⟨.ref Te, rfl, Te, ys, rfl, .inr (SqT.of eTe), fun l nl => ?_⟩
              have kl : Keep [] X1 (upd X1 l (.lst ys)) := Keep.new nl
              obtain ⟨m', rfl⟩ : ∃ m', m = m' + 1 := by cases tp with | @tup k _ _ _ => exact ⟨k, rfl⟩
              exact hQ2 _ _ ⟨kl.of, (dko.new nl).mono (by omega), _, .lst (fun hm => (dko.nes nl).1 (List.mem_singleton.mp hm)) upd_same (dys.keep kl.of), Bnt.lst tp⟩
            · exact ⟨vx, rfl, hQ2 _ _ ⟨Keep.refl _ _, dko.mono (by omega), dp, dp1, Bnt.of tp⟩⟩
          · obtain ⟨kX2, dX2, d2, dt2, bn2⟩ := hR2
            refine ⟨show 2 ≤ sizeLine by decide, fun Ll nLl => ?_⟩
            have kL : Keep [] X2 (upd X2 Ll (.lst [vo, v2])) := Keep.new nLl
            have eLl : (upd X2 Ll (.lst [vo, v2])) Ll = some (.lst [vo, v2]) := upd_same
            have dL := dX2.new (o := .lst [vo, v2]) nLl
            have nLD := (dX2.nes nLl).1
            refine ⟨.ref D, rfl, D, C, _, 2, rfl, by decide, by decide, dL, by omega, fun X3 u k3 d3 u0 u1 => ?_⟩
            have e3 := k3 _ _ eLl (fun hm => nLD (List.mem_singleton.mp hm))
            have kt := (kX2.trans (kL.of.trans k3))
            have hu : u = 0 ∨ u = 1 := by omega
            rcases hu with rfl | rfl
            · exact ⟨Ll, [vo, v2], 0, vo, rfl, rfl, SqL.of e3, atI_nat (j := 0) rfl, hN _ _ ⟨vo, dvo, rfl, kX.trans (ko.trans kt), d3.mono (by omega), dto.keep kt, Bnt.odd mo⟩⟩
            · exact ⟨Ll, [vo, v2], 1, v2, rfl, rfl, SqL.of e3, atI_nat (j := 1) rfl, hN _ _ ⟨v2, d2, rfl, kX.trans (ko.trans kt), d3.mono (by omega), dt2.keep (kL.of.trans k3), bn2⟩⟩
    obtain ⟨p, dq, rfl, kJ, dJ, dtq, bq⟩ := hJ
    have k0J := k1.trans kJ
    have dvJ := (Dt.tup nT eT dxs).keep k0J
    have hv := av0 dJ
    have okSz : ∀ n : Nat, n ≤ 16000000 → n ≤ sizeLine := fun n h => Nat.le_of_lt (Nat.lt_of_le_of_lt h (by decide))
    -- the piece put in
    refine ⟨.ref T, rfl, .int i, rfl, i, rfl, ?_⟩
    refine toD (K := K) i hv dvJ fun J1 p1 j1 dp1 => ?_
    refine ⟨p, rfl, show 1 ≤ sizeLine by decide, fun p2 np2 => ?_⟩
    obtain ⟨j2, dp2⟩ := tupD (stays hv j1) np2 (Dts.cons (dtq.keep j1.of) .nil)
    generalize upd J1 p2 (.tup [p]) = J2 at j2 dp2 ⊢
    refine catD (K := K) (stays hv (j1.trans j2)) (dp1.keep j2.of) dp2 (okSz _ (by rw [List.length_take]; show min i ds.length + 1 ≤ _; omega)) fun J3 p3 j3 dp3 => ?_
    have j13 := j1.trans (j2.trans j3)
    refine ⟨.ref T, rfl, .int i, rfl, i, 1, rfl, rfl, _, rfl, ?_⟩
    dsimp only [tNoPart]
    refine fromD (K := K) (i + 1) (stays hv j13) (dvJ.keep j13.of) fun J4 p4 j4 dp4 => ?_
    have j14 := j13.trans j4
    refine catD (K := K) (stays hv j14) (dp3.keep j4.of) dp4 (okSz _ (by rw [List.length_append, List.length_take, List.length_drop]; show min i ds.length + 1 + _ ≤ _; omega)) fun J5 p5 j5 dp5 => ?_
    have j15 := j14.trans j5
    -- the piece left out
    refine ⟨.ref T, rfl, .int i, rfl, i, rfl, ?_⟩
    refine toD (K := K) i (stays hv j15) (dvJ.keep j15.of) fun J6 p6 j6 dp6 => ?_
    have j16 := j15.trans j6
    refine ⟨.ref T, rfl, .int i, rfl, i, 1, rfl, rfl, _, rfl, ?_⟩
    dsimp only [tNoPart]
    refine fromD (K := K) (i + 1) (stays hv j16) (dvJ.keep j16.of) fun J7 p7 j7 dp7 => ?_
    have j17 := j16.trans j7
    refine catD (K := K) (stays hv j17) (dp6.keep j7.of) dp7 (okSz _ (by rw [List.length_take, List.length_drop]; omega)) fun J8 p8 j8 dp8 => ?_
    have j18 := j17.trans j8
    -- the piece put behind
    refine ⟨.ref T, rfl, p, rfl, show 1 ≤ sizeLine by decide, fun p9 np9 => ?_⟩
    obtain ⟨j9, dp9⟩ := tupD (stays hv j18) np9 (Dts.cons (dtq.keep j18.of) .nil)
    generalize upd J8 p9 (.tup [p]) = J9 at j9 dp9 ⊢
    have j19 := j18.trans j9
    refine catD (K := K) (stays hv j19) (dvJ.keep j19.of) dp9 (okSz _ (by show ds.length + 1 ≤ _; omega)) fun J10 p10 j10 dp10 => ?_
    have j110 := j19.trans j10
    -- as a list
    have eT10 := (k0J.trans j110.of) _ _ eT nT
    refine ⟨.ref T, rfl, T, xs, rfl, .inr (SqT.of eT10), fun l nl => ?_⟩
    obtain ⟨j11, dl⟩ := lstD (stays hv j110) nl ((dxs.keep k0J).keep j110.of)
    generalize upd J10 l (.lst xs) = J11 at j11 dl ⊢
    have j111 := j110.trans j11
    refine ⟨show 4 ≤ sizeLine by decide, fun S nS => ?_⟩
    have eS : (upd J11 S (.lst [.ref p5, .ref p8, .ref p10, .ref l])) S = some (.lst [.ref p5, .ref p8, .ref p10, .ref l]) := upd_same
    have jS : Keep [] J11 (upd J11 S (.lst [.ref p5, .ref p8, .ref p10, .ref l])) := Keep.new nS
    have j1S := j111.trans jS
    have dS := dJ.keep j1S
    have nSD : S ≠ D := ((dJ.keep j111).nes nS).1
    generalize upd J11 S (.lst [.ref p5, .ref p8, .ref p10, .ref l]) = JS at eS jS j1S dS ⊢
    refine gn_set ?_
    dsimp only [List.set]
    refine ⟨.ref S, rfl, show 7 ≤ sizeLine by decide, fun U nU => ?_⟩
    have kU : Keep [] JS (upd JS U (.lst [.int 0, .int 0, .int 0, .int 0, .int 1, .int 2, .int 3])) := Keep.new nU
    have eU : (upd JS U (.lst [.int 0, .int 0, .int 0, .int 0, .int 1, .int 2, .int 3])) U = some (.lst ([0, 0, 0, 0, 1, 2, 3].map V.int)) := upd_same
    have nUD : U ≠ D := (dS.nes nU).1
    have dU := dS.keep kU
    generalize upd JS U (.lst [.int 0, .int 0, .int 0, .int 0, .int 1, .int 2, .int 3]) = JU at kU eU dU ⊢
    refine ⟨.ref D, rfl, D, C, _, 7, rfl, by decide, by decide, dU, by omega, fun F' u kF dF u0 u1 => ?_⟩
    obtain ⟨w', mw, gw⟩ := pick_at (xs := [0, 0, 0, 0, 1, 2, 3]) u0 u1
    have eUF := kF _ _ eU (fun hm => nUD (List.mem_singleton.mp hm))
    have eSF := kF _ _ (kU _ _ eS List.not_mem_nil) (fun hm => nSD (List.mem_singleton.mp hm))
    refine ⟨U, _, u, .int w', rfl, rfl, SqL.of eUF, gw, ?_⟩
    have kE : Keep [D] H F' := k0J.trans ((j1S.trans kU).of.trans kF)
    have dE : Dq F' D C (b + 10 * ((m + 1 : Nat) : Int)) := dF.mono (by omega)
    have wat := wtA_at gd
    have mt : ∀ x ∈ ds.take i, x ∈ ds := fun x m => List.mem_of_mem_take m
    have md : ∀ x ∈ ds.drop (i + 1), x ∈ ds := fun x m => List.mem_of_mem_drop m
    simp only [List.mem_cons, List.not_mem_nil, or_false] at mw
    have hw : w' = 0 ∨ w' = 1 ∨ w' = 2 ∨ w' = 3 := by omega
    rcases hw with rfl | rfl | rfl | rfl
    · refine ⟨S, _, 0, .ref p5, rfl, rfl, SqL.of eSF, atI_nat (j := 0) rfl, q F' _ _ kE dE ((dp5.keep ((j6.trans (j7.trans (j8.trans (j9.trans (j10.trans (j11.trans (jS.trans kU)))))))).of).keep kF) (Bnt.put ti bq (fun x mx => ?_) ?_)⟩
      · rcases List.mem_append.mp mx with mx | mx
        · rcases List.mem_append.mp mx with mx | mx
          · exact .inl (mt x mx)
          · exact .inr (List.mem_singleton.mp mx)
        · exact .inl (md x mx)
      · rw [wtA_app, wtA_app]
        simp only [wtA]
        omega
    · refine ⟨S, _, 1, .ref p8, rfl, rfl, SqL.of eSF, atI_nat (j := 1) rfl, q F' _ _ kE dE ((dp8.keep ((j9.trans (j10.trans (j11.trans (jS.trans kU)))).of)).keep kF) (Bnt.put ti bq (fun x mx => ?_) ?_)⟩
      · rcases List.mem_append.mp mx with mx | mx
        · exact .inl (mt x mx)
        · exact .inl (md x mx)
      · rw [wtA_app]
        omega
    · refine ⟨S, _, 2, .ref p10, rfl, rfl, SqL.of eSF, atI_nat (j := 2) rfl, q F' _ _ kE dE ((dp10.keep ((j11.trans (jS.trans kU)).of)).keep kF) (Bnt.put ti bq (fun x mx => ?_) ?_)⟩
      · rcases List.mem_append.mp mx with mx | mx
        · exact .inl mx
        · exact .inr (List.mem_singleton.mp mx)
      · rw [wtA_app]
        simp only [wtA]
        omega
    · exact ⟨S, _, 3, .ref l, rfl, rfl, SqL.of eSF, atI_nat (j := 3) rfl, q F' _ _ kE dE ((dl.keep (jS.trans kU).of).keep kF) (Bnt.lst ti)⟩
theorem ok_ben (h : Has K mg "_law_bent" sBen) (B : Blt mg) (CT : Can P w K mg base "_law_take" ["_law_stream_here", "_law_below"] 1 spTk) (CO : Can P w K mg base "_law_odd" ["_law_stream_here"] 2 spOdd) : ∀ m, Can P w K mg base "_law_bent" ["_law_stream_here", "_law_thing"] (m + 3) (spBen m)
  | 0 => by
    obtain ⟨f, fd, F, g⟩ := h
    refine ⟨f, fd, F.ok (k := 2) scBen (fun vs H Q E h => ?_) (fun cdv A outer s H vs Q E hr h => ?_), g, F.kp, F.binds fun _ _ _ _ _ _ us hl => match us, hl with | [_, _], _ => rfl⟩
    · obtain ⟨D, C, b, v, ds, rfl, _⟩ := h
      rfl
    · obtain ⟨D, C, b, v, ds, rfl, _, _, _, _, ti, _⟩ := h
      exact absurd ti (TI.no0 ds)
  | m + 1 => ok_benS h m B CT CO (ok_ben h B CT CO m)
end
end Rw

namespace Rw
open PySem PySem.Spec PyProof.Rows L2
theorem cr_setOfTK {X : Cx} {K : PySem.W.Frag} {P : Program} {w : World} (hK : X.K = K) (hP : X.prog = P) (hw : X.w = w) (hc : X.calm = true) (hu : X.A.units + 64 < cLine) : CallR X (.type "set") (rSetOfT K P w) := by
  subst hK hP hw
  exact cr_setOfT hc hu
theorem cr_sortedTK {X : Cx} {K : PySem.W.Frag} {P : Program} {w : World} (hK : X.K = K) (hP : X.prog = P) (hw : X.w = w) (hc : X.calm = true) : CallR X (.builtin "sorted") (rSortedT K P w) := by
  subst hK hP hw
  exact cr_sortedT hc
theorem prD_atJ {av : List Addr} {H : Hp} {v : V} {p : Int × Int} (h : Dt av H v (prD p)) : ∃ a, v = .ref a ∧ a ∉ av ∧ H a = some (.tup [.int p.1, .int p.2]) := by
  obtain ⟨a, xs, rfl, na, ea, da⟩ := tup_at (show Dt av H v (.tuple [.int p.1, .int p.2]) from h)
  rcases da with _ | ⟨q1, _ | ⟨q2, _ | _⟩⟩
  cases q1
  cases q2
  exact ⟨a, rfl, na, ea⟩
theorem prs_off {H : Hp} {D C : Addr} {b : Int} (dq : Dq H D C b) : ∀ {ks : List (Int × Int)} {us : List V}, Dts [] H us (ks.map prD) → Dts [D] H us (ks.map prD)
  | [], _, .nil => .nil
  | k :: ks, _, .cons h t => by
    obtain ⟨T, rfl, _, e⟩ := prD_atJ h
    obtain ⟨l, el⟩ := dq.lst
    refine .cons (.tup (fun m => ?_) e (.cons (.int _) (.cons (.int _) .nil))) (prs_off dq t)
    rw [List.mem_singleton.mp m, el] at e
    cases e
theorem nx_ofJ {f : L2.St → Hp → Prop} {r : VK} {b c : L2.St → Hp → Prop} {σ : L2.St} {H : Hp} (h : f σ H) : ({ nx := f, rt := r, bk := b, ct := c } : Ends).nx σ H := h
theorem pr_keepT {H G : Hp} (kt : KeepT H G) {k : Int × Int} {v : V} (h : Dt [] H v (prD k)) : Dt [] G v (prD k) := by
  obtain ⟨T, rfl, _, e⟩ := prD_atJ h
  exact .tup List.not_mem_nil (kt _ _ e) (.cons (.int _) (.cons (.int _) .nil))
theorem prs_keepT {H G : Hp} (kt : KeepT H G) : ∀ {ks : List (Int × Int)} {us : List V}, Dts [] H us (ks.map prD) → Dts [] G us (ks.map prD)
  | [], _, .nil => .nil
  | k :: ks, _, .cons h t => .cons (pr_keepT kt h) (prs_keepT kt t)
def rwK (q : Addr × List Int) : Int × Int := (q.2.getD 0 0, q.2.getD 1 0)
theorem rows_dts {J : Hp} : ∀ {L : List (Addr × List Int)}, (∀ q ∈ L, J q.1 = some (.tup (q.2.map V.int)) ∧ ∃ x y : Int, q.2 = [x, y]) → Dts [] J (L.map fun q => V.ref q.1) ((L.map rwK).map prD)
  | [], _ => .nil
  | q :: L, h => by
    obtain ⟨e, x, y, e2⟩ := h q List.mem_cons_self
    obtain ⟨a, xs⟩ := q
    have e2 : xs = [x, y] := e2
    subst e2
    exact .cons (.tup List.not_mem_nil e (.cons (.int _) (.cons (.int _) .nil))) (rows_dts fun r m => h r (List.mem_cons_of_mem _ m))
section
variable {P : Program} {w : World} {K : PySem.W.Frag} {mg : Str → Option Value} {base : Heap}
abbrev sAnR : Stmt := topS 46
abbrev nAnR : List Str := ["_law_stream_here", "_law_some", "_law_length", "_law_knots", "_law_k", "_law_behind", "_law_size"]
theorem scAnR : FnScope nAnR ["_law_stream_here"] (defScope sAnR) := ⟨rfl, rfl, rfl, by decide +kernel, rfl, by decide +kernel, by decide +kernel⟩
def spAnR : Sp := fun vs H Q _ => ∃ (D C : Addr) (b : Int), vs = [.ref D] ∧ Dq H D C b ∧ b ≤ 400000 ∧
  ∀ (H' : Hp) (r : V) (l : Int) (ks : List (Int × Int)), Keep [D] H H' → Dq H' D C (b + 30) → Dt [D] H' r (.tuple [.int l, .tuple (ks.map prD)]) → 0 ≤ l → l ≤ 100000000000001 → ks.length ≤ 5 → (∀ k ∈ ks, -1 ≤ k.1 ∧ k.1 ≤ 100000000000002 ∧ 0 ≤ k.2 ∧ k.2 ≤ 1000001) → Q r H'
theorem ok_anR (h : Has K mg "_law_any_rope" sAnR) (B : Blt mg) (CT : Can P w K mg base "_law_take" ["_law_stream_here", "_law_below"] 1 spTk) : Can P w K mg base "_law_any_rope" ["_law_stream_here"] 2 spAnR := by
  obtain ⟨f, fd, F, g⟩ := h
  refine ⟨f, fd, F.ok (k := 1) scAnR (fun vs H Q E h => ?_) (fun cdv A outer s H vs Q E hr h => ?_), g, F.kp, F.binds fun _ _ _ _ _ _ us hl => match us, hl with | [_], _ => rfl⟩
  · obtain ⟨D, C, b, rfl, _⟩ := h
    rfl
  · obtain ⟨D, C, b, rfl, dk, hb, q⟩ := h
    refine ⟨_, pss_cons (ps_set (i := 1) scAnR.nd rfl (by first | exact Or.inl rfl | exact Or.inr rfl) (pe_lst (pa_cons pe_int (pa_cons (pe_op op_pow pe_int pe_int) (pa_cons (pe_op op_add pe_int (pe_can CT (hr.mono (by decide)) (by rfl) (pa_cons (pv 0) (pa_cons pe_int pa_nil)))) (pa_cons (pe_op op_add pe_int (pe_can CT (hr.mono (by decide)) (by rfl) (pa_cons (pv 0) (pa_cons (pe_op op_pow pe_int pe_int) pa_nil)))) (pa_cons pe_int (pa_cons (pe_op op_add (pe_op op_pow pe_int pe_int) pe_int) pa_nil))))))))
      (pss_cons (ps_set (i := 2) scAnR.nd rfl (by first | exact Or.inl rfl | exact Or.inr rfl) (pe_ix ix_list (pv 1) (pe_can CT (hr.mono (by decide)) (by rfl) (pa_cons (pv 0) (pa_cons pe_int pa_nil))) (fun _ _ => rfl)))
      (pss_cons (ps_set (i := 3) scAnR.nd rfl (by first | exact Or.inl rfl | exact Or.inr rfl) (pe_lst pa_nil))
      (pss_cons (ps_for PassesOwn.never rfl (pi_range1 (by rfl) B.range_ (pa_cons (pe_can CT (hr.mono (by decide)) (by rfl) (pa_cons (pv 0) (pa_cons pe_int pa_nil))) pa_nil)) (pg_name (i := 4) scAnR.nd rfl (by first | exact Or.inl rfl | exact Or.inr rfl))
      (pss_cons (ps_set (i := 5) scAnR.nd rfl (by first | exact Or.inl rfl | exact Or.inr rfl) (pe_ix ix_list (pe_lst (pa_cons pe_int (pa_cons (pv 2) (pa_cons (pv 4) (pa_cons (pe_op op_add (pv 2) pe_int) (pa_cons (pe_callB (call_max2 rfl) (by rfl) B.max_ boot_max (pa_cons pe_int (pa_cons (pe_op op_sub (pv 2) (pv 4)) pa_nil))) (pa_cons (pe_un un_neg pe_int) pa_nil))))))) (pe_can CT (hr.mono (by decide)) (by rfl) (pa_cons (pv 0) (pa_cons pe_int pa_nil))) (fun _ _ => rfl)))
      (pss_one (ps_expr (pe_bm PySem.F.plainAttrs_list PySem.F.slot_list_append PySem.F.type_list_append mt_append (pv 3) (pa_cons (pe_tup (pa_cons (pv 5) (pa_cons (pe_ix ix_list (pe_lst (pa_cons pe_int (pa_cons (pe_op op_pow pe_int pe_int) (pa_cons pe_int (pa_cons pe_int (pa_cons (pe_op op_add (pe_op op_pow pe_int pe_int) pe_int) (pa_cons pe_int pa_nil))))))) (pe_can CT (hr.mono (by decide)) (by rfl) (pa_cons (pv 0) (pa_cons pe_int pa_nil))) (fun _ _ => rfl)) pa_nil))) pa_nil))))))
      (pss_cons (ps_if (pt_cmpR op_gt (pe_can CT (hr.mono (by decide)) (by rfl) (pa_cons (pv 0) (pa_cons pe_int pa_nil))) pe_int (nomark _)) (pss_one (ps_set (i := 3) scAnR.nd rfl (by first | exact Or.inl rfl | exact Or.inr rfl) (pe_callB (cr_sortedTK (K := K) (P := P) (w := w) rfl rfl rfl rfl) (by rfl) B.sorted_ boot_sorted (pa_cons (pe_callTy (cr_setOfTK (K := K) (P := P) (w := w) rfl rfl rfl rfl hr.units) (by rfl) B.set_ boot_set (pa_cons (pe_lc (own := [("_law_behind", 5), ("_law_size", 6)]) (tt := tYes) rfl scAnR.nd (pi_list (pv 3)) (blkOk_by (N := nAnR) (sc := defScope sAnR) (by decide +kernel)) (fun _ _ _ _ _ => (pg_tupK (K := K) (n := 2) rfl (by rfl) (pgs_cons (pg_name (i := 5) scAnR.nd rfl (by first | exact Or.inl rfl | exact Or.inr rfl)) (pgs_cons (pg_name (i := 6) scAnR.nd rfl (by first | exact Or.inl rfl | exact Or.inr rfl)) pgs_nil)))) (fun _ _ _ _ _ => pts_nil) (fun _ _ _ _ _ => (pe_tup (pa_cons (pe_callB (call_max2 rfl) (by rfl) B.max_ boot_max (pa_cons pe_int (pa_cons (pe_callB (call_min2 rfl) (by rfl) B.min_ boot_min (pa_cons (pv 5) (pa_cons (pv 2) pa_nil))) pa_nil))) (pa_cons (pe_callB (call_max2 rfl) (by rfl) B.max_ boot_max (pa_cons pe_int (pa_cons (pe_op op_mod (pv 6) (pe_op op_pow pe_int pe_int)) pa_nil))) pa_nil))))) pa_nil)) pa_nil)))) pss_nil)
      (pss_one (ps_ret (pe_tup (pa_cons (pv 2) (pa_cons (pe_callTy call_tuple_of (by rfl) B.tuple_ boot_tuple (pa_cons (pv 3) pa_nil)) pa_nil))))))))), ?_⟩
    have okSz : ∀ n : Nat, n ≤ 16000000 → n < sizeLine := fun n h => Nat.lt_of_le_of_lt h (by decide)
    have e12 : (10 : Int) ^ Int.toNat 12 = 1000000000000 := by decide
    have e14 : (10 : Int) ^ Int.toNat 14 = 100000000000000 := by decide
    have e6 : (10 : Int) ^ Int.toNat 6 = 1000000 := by decide
    rw [show L2.start nAnR [.ref D] = [some (.ref D), none, none, none, none, none, none] from rfl]
    refine ⟨10, 14, rfl, rfl, ⟨by decide, by decide, by decide⟩, .ref D, rfl, D, C, b, 10, rfl, by decide, by decide, dk, by omega, fun H1 x1 k1 d1 x10 x11 => ⟨1, x1, rfl, rfl, .ref D, rfl, 10, 12, rfl, rfl, ⟨by decide, by decide, by decide⟩, D, C, _, 10 ^ Int.toNat 12, rfl, by decide, by decide, d1, by omega, fun H2 x2 k2 d2 x20 x21 => ⟨1, x2, rfl, rfl, 10, 14, rfl, rfl, ⟨by decide, by decide, by decide⟩, _, 1, rfl, rfl, show 6 ≤ sizeLine by decide, fun L1 nL1 => ?_⟩⟩⟩
    rw [e12] at x21
    obtain ⟨ns, ens⟩ : ∃ ns : List Int, ns = [1, 10 ^ Int.toNat 14, 1 + x1, 1 + x2, 0, 10 ^ Int.toNat 14 + 1] := ⟨_, rfl⟩
    have nsb : ∀ n ∈ ns, 0 ≤ n ∧ n ≤ 100000000000001 := fun n m => by
      rw [ens, e14] at m
      simp only [List.mem_cons, List.not_mem_nil, or_false] at m
      rcases m with rfl | rfl | rfl | rfl | rfl | rfl <;> omega
    have hL : ([.int 1, .int (10 ^ Int.toNat 14), .int (1 + x1), .int (1 + x2), .int 0, .int (10 ^ Int.toNat 14 + 1)] : List V) = ns.map V.int := by rw [ens]; rfl
    have lns : (ns.length : Int) = 6 := by rw [ens]; rfl
    have kL1 : Keep [] H2 (upd H2 L1 (.lst [.int 1, .int (10 ^ Int.toNat 14), .int (1 + x1), .int (1 + x2), .int 0, .int (10 ^ Int.toNat 14 + 1)])) := Keep.new nL1
    have eL1 : (upd H2 L1 (.lst [.int 1, .int (10 ^ Int.toNat 14), .int (1 + x1), .int (1 + x2), .int 0, .int (10 ^ Int.toNat 14 + 1)])) L1 = some (.lst (ns.map V.int)) := by rw [upd_same, hL]
    have nL1D : L1 ∉ [D] := fun m => (d2.nes nL1).1 (List.mem_singleton.mp m)
    have d3 := d2.keep kL1
    have K3 := (k1.trans k2).trans kL1.of
    generalize upd H2 L1 (.lst [.int 1, .int (10 ^ Int.toNat 14), .int (1 + x1), .int (1 + x2), .int 0, .int (10 ^ Int.toNat 14 + 1)]) = H3 at kL1 eL1 d3 K3 ⊢
    refine of_set ?_
    dsimp only [List.set]
    refine ⟨.ref L1, rfl, .ref D, rfl, D, C, _, 6, rfl, by decide, by decide, d3, by omega, fun H4 u k4 d4 u0 u1 => ?_⟩
    obtain ⟨l, ml, gl⟩ := pick_at (xs := ns) u0 (by omega)
    obtain ⟨l0, l9⟩ := nsb l ml
    refine ⟨L1, _, u, .int l, rfl, rfl, SqL.of (k4 _ _ eL1 nL1D), gl, ?_⟩
    refine of_set ?_
    dsimp only [List.set]
    refine ⟨show 0 ≤ sizeLine by decide, fun Kn nKn => ?_⟩
    have nKD : Kn ∉ [D] := fun m => (d4.nes nKn).1 (List.mem_singleton.mp m)
    have nKC : Kn ≠ C := (d4.nes nKn).2
    have d5 := d4.new (o := .lst []) nKn
    have K4 := K3.trans k4
    have fKn : H Kn = none := d4.free K4 nKn
    have K5 : Keep [D] H (upd H4 Kn (.lst [])) := K4.upd fKn
    have e5 : (upd H4 Kn (.lst [])) Kn = some (.lst []) := upd_same
    generalize upd H4 Kn (.lst []) = H5 at d5 K5 e5 ⊢
    refine of_set ?_
    dsimp only [List.set]
    refine ⟨.ref D, rfl, D, C, _, 6, rfl, by decide, by decide, d5, by omega, fun H6 t k6 d6 t0 t1 => ?_⟩
    have e6K := k6 _ _ e5 nKD
    refine ⟨t, rfl, by omega, by omega, for_range (lo := 0) (n := t.toNat) (fun i σ G => ∃ (s4 s5 s6 : Option V) (us : List V) (ks : List (Int × Int)), σ = [some (.ref D), some (.ref L1), some (.int l), some (.ref Kn), s4, s5, s6] ∧ Keep [D] H G ∧ Dq G D C (b + 5 + 2 * i) ∧ G Kn = some (.lst us) ∧ Dts [] G us (ks.map prD) ∧ us.length = i ∧ ∀ k ∈ ks, -1 ≤ k.1 ∧ k.1 ≤ 100000000000002 ∧ 0 ≤ k.2 ∧ k.2 ≤ 1000001)
      ⟨_, _, _, [], [], rfl, K5.trans k6, d6.mono (by omega), e6K, .nil, rfl, fun _ m => absurd m List.not_mem_nil⟩ (fun i σ G hi z => ?_) (fun σ G z => ?_)⟩
    · obtain ⟨s4, s5, s6, us, ks, rfl, kG, dG, eK, du, lu, hks⟩ := z
      refine gn_set ?_
      dsimp only [List.set]
      refine ⟨.int l, rfl, .int (0 + (i : Int)), rfl, .int l, rfl, l, 1, rfl, rfl, .int l, rfl, .int (0 + (i : Int)), rfl, l, 0 + (i : Int), rfl, rfl, 0, l - (0 + (i : Int)), rfl, 1, rfl, show 6 ≤ sizeLine by decide, fun P1 nP1 => ?_⟩
      obtain ⟨mx, emx⟩ : ∃ mx : Int, mx = if l - (0 + (i : Int)) > 0 then l - (0 + (i : Int)) else 0 := ⟨_, rfl⟩
      rw [← emx]
      have mx0 : 0 ≤ mx ∧ mx ≤ l := by rw [emx]; split <;> omega
      have it : (i : Int) < 6 := by omega
      have kP : Keep [] G (upd G P1 (.lst [.int 0, .int l, .int (0 + (i : Int)), .int (l + 1), .int mx, .int (-1)])) := Keep.new nP1
      have eP : (upd G P1 (.lst [.int 0, .int l, .int (0 + (i : Int)), .int (l + 1), .int mx, .int (-1)])) P1 = some (.lst (([0, l, 0 + (i : Int), l + 1, mx, -1] : List Int).map V.int)) := upd_same
      have nPD : P1 ∉ [D] := fun m => (dG.nes nP1).1 (List.mem_singleton.mp m)
      have dP := dG.keep kP
      have eKP := kP _ _ eK List.not_mem_nil
      have duP := du.keep kP
      generalize upd G P1 (.lst [.int 0, .int l, .int (0 + (i : Int)), .int (l + 1), .int mx, .int (-1)]) = G0 at kP eP dP eKP duP ⊢
      refine ⟨.ref D, rfl, D, C, _, 6, rfl, by decide, by decide, dP, by omega, fun G1 u1 kg1 dg1 v0 v1 => ?_⟩
      obtain ⟨bh, mbh, gbh⟩ := pick_at (xs := [0, l, 0 + (i : Int), l + 1, mx, -1]) v0 (by simpa using v1)
      have bb : -1 ≤ bh ∧ bh ≤ 100000000000002 := by
        simp only [List.mem_cons, List.not_mem_nil, or_false] at mbh
        rcases mbh with rfl | rfl | rfl | rfl | rfl | rfl <;> omega
      refine ⟨P1, _, u1, .int bh, rfl, rfl, SqL.of (kg1 _ _ eP nPD), gbh, ?_⟩
      refine of_set ?_
      dsimp only [List.set]
      have eK1 := kg1 _ _ eKP nKD
      have du1 : Dts [] G1 us (ks.map prD) := by
        obtain ⟨w', ew⟩ := dP.lst
        exact prs_keepT (KeepT.D ew kg1) duP
      refine ⟨.ref Kn, rfl, .inl ⟨rfl, _, SqL.of eK1⟩, .int bh, rfl, 10, 6, rfl, rfl, ⟨by decide, by decide, by decide⟩, 10, 6, rfl, rfl, ⟨by decide, by decide, by decide⟩, _, 1, rfl, rfl, show 6 ≤ sizeLine by decide, fun P2 nP2 => ?_⟩
      have kP2 : Keep [] G1 (upd G1 P2 (.lst [.int 1, .int (10 ^ Int.toNat 6), .int 5, .int 0, .int (10 ^ Int.toNat 6 + 1), .int 2])) := Keep.new nP2
      have eP2 : (upd G1 P2 (.lst [.int 1, .int (10 ^ Int.toNat 6), .int 5, .int 0, .int (10 ^ Int.toNat 6 + 1), .int 2])) P2 = some (.lst (([1, 10 ^ Int.toNat 6, 5, 0, 10 ^ Int.toNat 6 + 1, 2] : List Int).map V.int)) := upd_same
      have nP2D : P2 ∉ [D] := fun m => (dg1.nes nP2).1 (List.mem_singleton.mp m)
      have dP2 := dg1.keep kP2
      have eK2 := kP2 _ _ eK1 List.not_mem_nil
      have du2 := du1.keep kP2
      generalize upd G1 P2 (.lst [.int 1, .int (10 ^ Int.toNat 6), .int 5, .int 0, .int (10 ^ Int.toNat 6 + 1), .int 2]) = G2 at kP2 eP2 dP2 eK2 du2 ⊢
      refine ⟨.ref D, rfl, D, C, _, 6, rfl, by decide, by decide, dP2, by omega, fun G3 u2 kg3 dg3 w0 w1 => ?_⟩
      obtain ⟨sz, msz, gsz⟩ := pick_at (xs := [1, 10 ^ Int.toNat 6, 5, 0, 10 ^ Int.toNat 6 + 1, 2]) w0 (by simpa using w1)
      have sb : 0 ≤ sz ∧ sz ≤ 1000001 := by
        rw [e6] at msz
        simp only [List.mem_cons, List.not_mem_nil, or_false] at msz
        rcases msz with rfl | rfl | rfl | rfl | rfl | rfl <;> omega
      have eK3 := kg3 _ _ eK2 nKD
      have du3 : Dts [] G3 us (ks.map prD) := by
        obtain ⟨w', ew⟩ := dP2.lst
        exact prs_keepT (KeepT.D ew kg3) du2
      refine ⟨P2, _, u2, .int sz, rfl, rfl, SqL.of (kg3 _ _ eP2 nP2D), gsz, show 2 ≤ sizeLine by decide, fun Tp nTp => ?_⟩
      have kT : Keep [] G3 (upd G3 Tp (.tup [.int bh, .int sz])) := Keep.new nTp
      have dT : Dt [] (upd G3 Tp (.tup [.int bh, .int sz])) (.ref Tp) (prD (bh, sz)) := .tup List.not_mem_nil upd_same (.cons (.int _) (.cons (.int _) .nil))
      have eK4 := kT _ _ eK3 List.not_mem_nil
      have du4 := du3.keep kT
      have dg4 := dg3.keep kT
      have kall : Keep [D] G (upd G3 Tp (.tup [.int bh, .int sz])) := (kP.of.trans kg1).trans ((kP2.of.trans kg3).trans kT.of)
      generalize upd G3 Tp (.tup [.int bh, .int sz]) = G4 at kT dT eK4 du4 dg4 kall ⊢
      have kt := KeepT.lst (vs := us ++ [.ref Tp]) eK4
      refine ⟨Kn, us, .ref Tp, rfl, rfl, eK4, okSz _ (by omega), _, _, _, us ++ [.ref Tp], ks ++ [(bh, sz)], rfl, (kG.trans kall).upd fKn, (dg4.other (fun e => nKD (List.mem_singleton.mpr e)) nKC).mono (by omega), upd_same, ?_, by rw [List.length_append, lu]; rfl, fun k m => ?_⟩
      · rw [List.map_append]
        exact (prs_keepT kt du4).app (.cons (pr_keepT kt dT) .nil)
      · rcases List.mem_append.mp m with m | m
        · exact hks k m
        · rw [List.mem_singleton.mp m]
          exact ⟨bb.1, bb.2, sb.1, sb.2⟩
    · obtain ⟨s4, s5, s6, us, ks, rfl, kG, dG, eK, du, lu, hks⟩ := z
      have lu5 : us.length ≤ 5 := by omega
      refine nx_ofJ ?_
      refine seq_case (Post := fun σ' J => ∃ (s4 s5 s6 : Option V) (K2 : Addr) (us : List V) (ks : List (Int × Int)), σ' = [some (.ref D), some (.ref L1), some (.int l), some (.ref K2), s4, s5, s6] ∧ Keep [D] H J ∧ Dq J D C (b + 20) ∧ J K2 = some (.lst us) ∧ Dts [] J us (ks.map prD) ∧ us.length ≤ 5 ∧ ∀ k ∈ ks, -1 ≤ k.1 ∧ k.1 ≤ 100000000000002 ∧ 0 ≤ k.2 ∧ k.2 ≤ 1000001) (fun σ' J hJ => ?_) (fun N hN => ?_)
      · obtain ⟨s4, s5, s6, K2, us, ks, rfl, kJ, dJ, eJ, du, lu, hks⟩ := hJ
        refine ⟨.int l, rfl, .ref K2, rfl, K2, us, rfl, .inl ⟨SqL.of eJ, fun T1 nT1 => ⟨show 2 ≤ sizeLine by decide, fun T2 nT2 => ?_⟩⟩⟩
        have kT1 : Keep [] J (upd J T1 (.tup us)) := Keep.new nT1
        have kT2 : Keep [] (upd J T1 (.tup us)) (upd (upd J T1 (.tup us)) T2 (.tup [.int l, .ref T1])) := Keep.new nT2
        have n1 : T1 ∉ [D] := fun m => (dJ.nes nT1).1 (List.mem_singleton.mp m)
        have n2 : T2 ∉ [D] := fun m => ((dJ.keep kT1).nes nT2).1 (List.mem_singleton.mp m)
        have dd : Dt [D] (upd J T1 (.tup us)) (.ref T1) (.tuple (ks.map prD)) := .tup n1 upd_same ((prs_off dJ du).keep kT1.of)
        have lks : ks.length = us.length := by rw [du.len, List.length_map]
        exact q _ (.ref T2) l ks (kJ.trans (kT1.of.trans kT2.of)) (((dJ.keep kT1).keep kT2).mono (by omega)) (.tup n2 upd_same (.cons (.int _) (.cons (dd.keep kT2.of) .nil))) l0 l9 (by omega) hks
      · refine ⟨.ref D, rfl, D, C, _, 3, rfl, by decide, by decide, dG, by omega, fun J1 u3 kj dj z0 z1 => ⟨_, _, rfl, rfl, _, rfl, ?_⟩⟩
        have eKJ := kj _ _ eK nKD
        have duJ : Dts [] J1 us (ks.map prD) := by
          obtain ⟨w', ew⟩ := dG.lst
          exact prs_keepT (KeepT.D ew kj) du
        refine ite2 (fun _ => ?_) (fun _ => hN _ _ ⟨_, _, _, Kn, us, ks, rfl, kG.trans kj, dj.mono (by omega), eKJ, duJ, lu5, hks⟩)
        refine ⟨.ref Kn, rfl, Kn, rfl, ⟨_, SqL.of eKJ⟩, fun W nW => ?_⟩
        refine lc_list (K := K) (a := Kn) (xs := us) (fun t N => Keep [] J1 N ∧ ∃ rows : List (Addr × List Int), N W = some (.lst (rows.map fun p => V.ref p.1)) ∧ (∀ p ∈ rows, N p.1 = some (.tup (p.2.map V.int)) ∧ ∃ x y : Int, p.2 = [x, y] ∧ 0 ≤ x ∧ x ≤ 100000000000001 ∧ 1 ≤ y ∧ y ≤ 1000000) ∧ rows.length = t)
          ⟨Keep.new nW, [], upd_same, fun _ m => absurd m List.not_mem_nil, rfl⟩ (fun t N _ z => SqL.of (z.1 _ _ eKJ List.not_mem_nil)) (fun t y N gy z => ?_) (fun N z => ?_)
        · obtain ⟨kN, rows, eW, hr, lr⟩ := z
          obtain ⟨dd, gd, dy⟩ := (duJ.keep kN).getv t gy
          rw [List.getElem?_map] at gd
          obtain ⟨k, gk, rfl⟩ := Option.map_eq_some_iff.mp gd
          have ht := (List.getElem?_eq_some_iff.mp gy).1
          obtain ⟨qa, rfl, _, ea⟩ := prD_atJ dy
          refine ⟨qa, _, rfl, SqT.of ea, rfl, _, _, rfl, _, _, rfl, rfl, ?_⟩
          refine ⟨rfl, ?_⟩
          unfold tYes
          refine ite2 (fun _ => ?_) (fun h => absurd rfl h)
          refine ⟨.int k.1, rfl, .int l, rfl, k.1, l, rfl, 0, _, rfl, .int k.2, rfl, 10, 6, rfl, rfl, ⟨by decide, by decide, by decide⟩, k.2, _, rfl, rfl, (show (0 : Int) < 10 ^ Int.toNat 6 by decide), 1, _, rfl, show 2 ≤ sizeLine by decide, fun p np => ?_⟩
          obtain ⟨x, ex⟩ : ∃ x : Int, x = if (if l < k.1 then l else k.1) > 0 then (if l < k.1 then l else k.1) else 0 := ⟨_, rfl⟩
          obtain ⟨y', ey⟩ : ∃ y' : Int, y' = if k.2 % 10 ^ Int.toNat 6 > 1 then k.2 % 10 ^ Int.toNat 6 else 1 := ⟨_, rfl⟩
          rw [← ex, ← ey]
          have bx : 0 ≤ x ∧ x ≤ 100000000000001 := by
            rw [ex]
            split <;> split <;> omega
          have by' : 1 ≤ y' ∧ y' ≤ 1000000 := by
            rw [ey, e6]
            have := Int.emod_lt_of_pos k.2 (show (0 : Int) < 1000000 by decide)
            split <;> omega
          have kp : Keep [] N (upd N p (.tup [.int x, .int y'])) := Keep.new np
          have ep : (upd N p (.tup [.int x, .int y'])) p = some (.tup [.int x, .int y']) := upd_same
          have eW2 := kp _ _ eW List.not_mem_nil
          have hr2 : ∀ r ∈ rows, (upd N p (.tup [.int x, .int y'])) r.1 = some (.tup (r.2.map V.int)) := fun r m => kp _ _ (hr r m).1 List.not_mem_nil
          generalize upd N p (.tup [.int x, .int y']) = N2 at kp ep eW2 hr2 ⊢
          have kt := KeepT.lst (vs := (rows.map fun p => V.ref p.1) ++ [.ref p]) eW2
          refine ⟨_, eW2, okSz _ (by rw [List.length_map]; omega), (kN.trans kp).upd nW, rows ++ [(p, [x, y'])], by rw [upd_same, List.map_append]; rfl, fun r m => ?_, by rw [List.length_append, lr]; rfl⟩
          rcases List.mem_append.mp m with m | m
          · exact ⟨kt _ _ (hr2 r m), (hr r m).2⟩
          · rw [List.mem_singleton.mp m]
            exact ⟨kt _ _ ep, x, y', rfl, bx.1, bx.2, by'.1, by'.2⟩
        · obtain ⟨kN, rows, eW, hr, lr⟩ := z
          refine ⟨W, rows, rfl, SqL.of eW, fun p m => SqT.of (hr p m).1, by omega, fun a L na sub all => ?_⟩
          have kS : Keep [] N (upd N a (SetTO P w a L)) := Keep.new na
          have eS : (upd N a (SetTO P w a L)) a = some (SetTO P w a L) := upd_same
          generalize hNS : upd N a (SetTO P w a L) = NS at kS eS ⊢
          refine ⟨a, L, 2, 1000000000000000, rfl, eS, fun p m => SqT.of (kS _ _ (hr p (sub p m)).1 List.not_mem_nil), by decide, fun p m => ?_, fun L' p pm nd few pw np => ?_⟩
          · obtain ⟨_, x, y', e2, b1, b2, b3, b4⟩ := hr p (sub p m)
            rw [e2]
            refine ⟨rfl, fun z mz => ?_⟩
            simp only [List.mem_cons, List.not_mem_nil, or_false] at mz
            rcases mz with rfl | rfl <;> omega
          · have kp : Keep [] NS (upd NS p (.lst (L'.map fun q => V.ref q.1))) := Keep.new np
            have sub' : ∀ q ∈ L', q ∈ rows := fun q m => sub q (pm.mem_iff.mp m)
            have lL : L'.length ≤ rows.length := nodup_in ((List.pairwise_map.mp nd).imp fun h e => h (congrArg Prod.snd e)) sub'
            have kAll := kN.trans (kS.trans kp)
            exact hN _ _ ⟨_, _, _, p, L'.map fun q => V.ref q.1, L'.map rwK, rfl, (kG.trans kj).trans kAll.of, (dj.keep kAll).mono (by omega), upd_same, rows_dts fun q m => ⟨kp _ _ (kS _ _ (hr q (sub' q m)).1 List.not_mem_nil) List.not_mem_nil, by
              obtain ⟨_, x, y', e2, _⟩ := hr q (sub' q m)
              exact ⟨x, y', e2⟩⟩, by rw [List.length_map]; omega, fun k m => by
              obtain ⟨q, mq, rfl⟩ := List.mem_map.mp m
              obtain ⟨_, x, y', e2, b1, b2, b3, b4⟩ := hr q (sub' q mq)
              unfold rwK
              rw [e2]
              exact ⟨by show -1 ≤ x; omega, by show x ≤ _; omega, by show 0 ≤ y'; omega, by show y' ≤ _; omega⟩⟩
end
end Rw

namespace Rw
open PySem PySem.Spec PyProof.Rows L2
theorem op_inLstJ {X : Cx} {K : PySem.W.Frag} (h : X.K = K) (hu : X.A.units + 65 < cLine) : OpR X (compareOp .In) (rInD K) := by
  subst h
  exact op_inD hu
theorem tupIs_layJ (zs : List Pl) : PyData.canLayAll0 (zs.map tupI) = true := by
  induction zs with
  | nil => rfl
  | cons z zs ih =>
    rw [List.map_cons]
    unfold PyData.canLayAll0
    rw [ih, Bool.and_true]
    unfold tupI PyData.canLay0
    exact tupI_lay z
theorem any_tupJ (p : Pl) : ∀ zs : List Pl, ((zs.map tupI).any fun z => PyData.eqv z (tupI p)) = decide (p ∈ zs)
  | [] => by simp
  | z :: zs => by
    rw [List.map_cons, List.any_cons, eqv_tupI, any_tupJ p zs, Bool.eq_iff_iff, Bool.or_eq_true, decide_eq_true_eq, decide_eq_true_eq, decide_eq_true_eq, List.mem_cons]
    exact ⟨fun h => h.elim (fun e => .inl e.symm) .inr, fun h => h.elim (fun e => .inl e.symm) .inr⟩
theorem within_all : ∀ {ds : List PyData} {lo hi : Int}, (∀ d ∈ ds, within d lo hi = true) → ∃ z : List Int, ds = z.map PyData.int
  | [], _, _, _ => ⟨[], rfl⟩
  | d :: ds, lo, hi, h => by
    obtain ⟨i, rfl⟩ := within_int (h d List.mem_cons_self)
    obtain ⟨z, rfl⟩ := within_all fun x m => h x (List.mem_cons_of_mem _ m)
    exact ⟨i :: z, rfl⟩
theorem tupIs_depJ : ∀ zs : List Pl, PyData.depthAll (zs.map tupI) ≤ 2
  | [] => by simp [PyData.depthAll]
  | z :: zs => by
    have := tupIs_depJ zs
    have h : (tupI z).depth ≤ 2 := by simp [tupI, PyData.depth, tupI_depths z]
    simp only [List.map_cons, PyData.depthAll]
    omega
theorem tupIs_shJ (zs : List Pl) : SeqAt.shaped (.list (zs.map tupI)) = true := shaped_of (by simp only [PyData.canLay0]; exact tupIs_layJ zs) (by have := tupIs_depJ zs; simp only [PyData.depth]; omega)
section
variable {P : Program} {w : World} {K : PySem.W.Frag} {mg : Str → Option Value} {base : Heap}
abbrev sIPl : Stmt := topS 48
abbrev nIPl : List Str := ["_law_house_here", "_law_thing", "_law_piece"]
theorem scIPl : FnScope nIPl ["_law_house_here", "_law_thing"] (defScope sIPl) := ⟨rfl, rfl, rfl, by decide +kernel, rfl, by decide +kernel, by decide +kernel⟩
def spIPl : Sp := fun vs H Q _ => ∃ (h v : V) (n : Int) (ps : List Pi) (dl : PyData), vs = [h, v] ∧ Dt [] H h (houseD n (ps.map Pi.dat)) ∧ HouseOk n ps ∧ n ≤ 5 ∧ (∀ p ∈ ps, p.l ≤ 10) ∧ Dt [] H v dl ∧ (∀ ds, dl = .tuple ds → ds.length ≤ 1000) ∧
  ∀ (H' : Hp) (b : Bool), Keep [] H H' → (b = true ↔ ∃ z, dl = tupI z ∧ okP n ps z) → Q (.bl b) H'
theorem ok_iPl (h : Has K mg "_law_is_place" sIPl) (B : Blt mg) (CW : Can P w K mg base "_law_whole" ["_law_thing", "_law_low", "_law_high"] 1 spLWh) (CP : Can P w K mg base "_law_places" ["_law_house_here"] 1 spPls) : Can P w K mg base "_law_is_place" ["_law_house_here", "_law_thing"] 2 spIPl := by
  obtain ⟨f, fd, F, g⟩ := h
  refine ⟨f, fd, F.ok (k := 1) scIPl (fun vs H Q E h => ?_) (fun cdv A outer s H vs Q E hr h => ?_), g, F.kp, F.binds fun _ _ _ _ _ _ us hl => match us, hl with | [_, _], _ => rfl⟩
  · obtain ⟨h, v, n, ps, dl, rfl, _⟩ := h
    rfl
  · obtain ⟨h, v, n, ps, dl, rfl, dh, hk, n5, short, dv, lds, q⟩ := h
    refine ⟨_, pss_cons (ps_if (PW.pt (pw_or (pt_not (pt_val (pe_callB (call_isD kit_tup) (by rfl) B.isi boot_isinstance (pa_cons (pv 1) (pa_cons (pe_bltn (v := .ty "tuple") (by rfl) B.tuple_ boot_tuple rfl) pa_nil))))) (pw_or1 (pt_cmpR (op_neNilL hr.units0) (pe_lc (own := [("_law_piece", 2)]) (g := gName 2) rfl scIPl.nd (pi_tup (pv 1)) (blkOk_by (N := nIPl) (sc := defScope sIPl) (by decide +kernel)) (fun _ _ _ _ _ => (pg_name (i := 2) scIPl.nd rfl (by first | exact Or.inl rfl | exact Or.inr rfl))) (fun _ _ _ _ _ => pts_one (pt_not (pt_val (pe_can CW (hr.mono (by decide)) (by rfl) (pa_cons (pv 2) (pa_cons pe_int (pa_cons pe_int pa_nil))))))) (fun _ _ _ _ _ => (pv 2))) (pe_lst pa_nil) (nomark _))))) (pss_one (ps_ret pe_bl)) pss_nil)
      (pss_one (ps_ret (pe_cmpR (op_inLstJ (K := K) rfl (units65 hr)) (pv 1) (pe_can CP (hr.mono (by decide)) (by rfl) (pa_cons (pv 0) pa_nil)) rfl))), ?_⟩
    have okSz : ∀ n : Nat, n ≤ 16000000 → n < sizeLine := fun n h => Nat.lt_of_le_of_lt h (by decide)
    have no : (¬ ∃ z, dl = tupI z ∧ okP n ps z) → ∀ H', Keep [] H H' → Q (.bl false) H' := fun h H' k => q H' false k ⟨fun z => (nomatch z), fun z => absurd z h⟩
    refine ⟨v, rfl, v, dl, [], rfl, dv, _, rfl, ite2 (fun c => ?_) (fun c => ?_)⟩
    · refine ite2 (fun _ => no ?_ H (Keep.refl _ _)) (fun h => absurd rfl h)
      rintro ⟨z, rfl, _⟩
      exact absurd c (by simp [aTup, tupI])
    obtain ⟨ds, rfl⟩ : ∃ ds, dl = .tuple ds := by
      cases dl with
      | tuple ds => exact ⟨ds, rfl⟩
      | _ => exact absurd rfl c
    have ld := lds ds rfl
    obtain ⟨T, xs, rfl, _, eT, dxs⟩ := tup_at dv
    have lx := dxs.len
    have small : ∀ z, PyData.tuple ds = tupI z → okP n ps z → ∀ d ∈ ds, within d 0 100 = true := fun z e oz d md => by
      have hlen := hk.len
      have e : ds = z.map PyData.int := by injection e
      rw [e] at md
      obtain ⟨i, mi, rfl⟩ := List.mem_map.mp md
      have b : 0 ≤ i ∧ i ≤ 100 := by
        rcases ok_cases oz with ⟨r, rfl, r0, r1⟩ | ⟨j, a, rfl, j0, j1, a0, a1⟩
        · rw [List.mem_singleton.mp mi]; omega
        · have := short _ (pr_mem j0 j1).1
          simp only [List.mem_cons, List.not_mem_nil, or_false] at mi
          rcases mi with rfl | rfl <;> omega
      show (decide (0 ≤ i) && decide (i ≤ 100)) = true
      rw [decide_eq_true b.1, decide_eq_true b.2]; rfl
    refine ⟨.ref T, rfl, T, rfl, ⟨_, SqT.of eT⟩, fun W nW => ?_⟩
    refine lc_tup (K := K) (a := T) (xs := xs) (fun t N => Keep [] H N ∧ ∃ ws : List V, N W = some (.lst ws) ∧ ws.length ≤ t ∧ (ws = [] ↔ ∀ d ∈ ds.take t, within d 0 100 = true))
      ⟨Keep.new nW, [], upd_same, Nat.le_refl _, by simp⟩ (fun t N _ z => SqT.of (z.1 _ _ eT List.not_mem_nil)) (fun t y N gy z => ?_) (fun N z => ?_)
    · obtain ⟨kN, ws, eW, lw, hw⟩ := z
      obtain ⟨d, gd, dy⟩ := (dxs.keep kN).getv t gy
      have ht := (List.getElem?_eq_some_iff.mp gy).1
      have tk : ds.take (t + 1) = ds.take t ++ [d] := by rw [List.take_add_one, gd]; rfl
      refine ⟨rfl, ?_⟩
      refine ⟨y, rfl, y, 0, 100, d, rfl, dy, _, rfl, ite2 (fun c2 => ?_) (fun c2 => ?_)⟩
      · have w0 : within d 0 100 = false := by revert c2; cases within d 0 100 <;> simp
        refine ⟨y, rfl, ws, eW, okSz _ (by omega), kN.upd nW, ws ++ [y], upd_same, by rw [List.length_append]; show ws.length + 1 ≤ _; omega, ?_⟩
        rw [tk]
        refine ⟨fun e => by simp at e, fun h => ?_⟩
        have := h d (List.mem_append_right _ (List.mem_singleton.mpr rfl))
        rw [w0] at this; cases this
      · have w1 : within d 0 100 = true := by revert c2; cases within d 0 100 <;> simp
        refine ⟨kN, ws, eW, by omega, ?_⟩
        rw [tk, hw]
        refine ⟨fun h x m => ?_, fun h x m => h x (List.mem_append_left _ m)⟩
        rcases List.mem_append.mp m with m | m
        · exact h x m
        · rw [List.mem_singleton.mp m]; exact w1
    · obtain ⟨kN, ws, eW, lw, hw⟩ := z
      rw [lx, List.take_length] at hw
      refine ⟨show 0 ≤ sizeLine by decide, fun Le nLe => ?_⟩
      have kL : Keep [] N (upd N Le (.lst [])) := Keep.new nLe
      have kNL := kN.trans kL
      refine ⟨W, Le, ws, rfl, rfl, SqL.of (kL _ _ eW List.not_mem_nil), SqL.of upd_same, _, rfl, ite2 (fun c3 => ?_) (fun c3 => ?_)⟩
      · refine no ?_ _ kNL
        rintro ⟨z, e, oz⟩
        have := hw.mpr (small z e oz)
        rw [this] at c3
        exact absurd c3 (by simp)
      · have we : ws = [] := by
          cases ws with
          | nil => rfl
          | cons => exact absurd rfl c3
        obtain ⟨z, ez⟩ := within_all (hw.mp we)
        subst ez
        refine ⟨.ref T, rfl, h, rfl, h, n, ps, [], rfl, dh.keep kNL, hk, short, ?_, fun H' L us k _ nL eL lus dus => ?_⟩
        · exact fun a m => absurd m List.not_mem_nil
        refine ⟨tupI z, (plsL n ps ps.length).map tupI, tupI_dp ((dv.keep kNL).keep k), L2.Dp.lst (SqL.of eL) (Dts.dp _ _ dus (tupIs_layJ _)), tupI_shaped _, tupIs_shJ _, ?_⟩
        rw [any_tupJ]
        refine q H' _ (kNL.trans k) ?_
        rw [decide_eq_true_eq, pls_mem]
        constructor
        · exact fun o => ⟨z, rfl, o⟩
        · rintro ⟨z', e, o⟩
          have e : z.map PyData.int = z'.map PyData.int := by injection e
          have : z = z' := by
            have inj : ∀ p q : List Int, p.map PyData.int = q.map PyData.int → p = q := fun p => by
              induction p with
              | nil => intro q h; cases q with
                | nil => rfl
                | cons y ys => cases h
              | cons x xs ih => intro q h; cases q with
                | nil => cases h
                | cons y ys =>
                  rw [List.map_cons, List.map_cons] at h
                  injection h with h1 h2
                  injection h1 with h1
                  rw [h1, ih ys h2]
            exact inj z z' e
          rw [this]; exact o
end
end Rw

namespace Rw
open PySem PySem.Spec PyProof.Rows L2
section
variable {P : Program} {w : World} {K : PySem.W.Frag} {mg : Str → Option Value} {base : Heap}
abbrev sLIS : Stmt := topS 49
abbrev nLIS : List Str := ["_law_house_here", "_law_nexts_here", "_law_rope_here", "_law_thing", "_law_row_here"]
theorem scLIS : FnScope nLIS ["_law_house_here", "_law_nexts_here", "_law_rope_here", "_law_thing"] (defScope sLIS) := ⟨rfl, rfl, rfl, by decide +kernel, rfl, by decide +kernel, by decide +kernel⟩
def spLIS : Sp := fun vs H Q _ => ∃ (h v tv : V) (Fd : Addr) (kvs : List (List Key × V)) (n l : Int) (ps : List Pi) (d : Int → Int → Int) (ks : List (Int × Int)) (dl : PyData), vs = [h, .ref Fd, v, tv] ∧ Dt [] H h (houseD n (ps.map Pi.dat)) ∧ HouseOk n ps ∧ n ≤ 5 ∧ (∀ p ∈ ps, p.l ≤ 10) ∧ Tm n ps d ∧ Rd H Fd (.dT kvs) ∧ Nxs H kvs (Adj ps) (okP n ps) 1000 ∧ Dt [] H v (ropeD l ks) ∧ okR l ks ∧ Dt [] H tv dl ∧ (∀ ds, dl = .tuple ds → ∀ x ∈ ds, ∀ es, x = .tuple es → es.length ≤ 1000) ∧
  ∀ (H' : Hp) (b : Bool), Keep [] H H' → (b = true ↔ StandOf n ps d l ks dl) → Q (.bl b) H'
theorem ok_lIS (h : Has K mg "_law_is_stand" sLIS) (B : Blt mg) (CP : Can P w K mg base "_law_is_place" ["_law_house_here", "_law_thing"] 2 spIPl) (CR : Can P w K mg base "_law_row" ["_law_nexts_here", "_law_one", "_law_other"] 1 spLRo) (CK : Can P w K mg base "_law_knots_lie" ["_law_house_here", "_law_rope_here", "_law_row_here"] 2 spKLi) : Can P w K mg base "_law_is_stand" ["_law_house_here", "_law_nexts_here", "_law_rope_here", "_law_thing"] 3 spLIS := by
  obtain ⟨f, fd, F, g⟩ := h
  refine ⟨f, fd, F.ok (k := 2) scLIS (fun vs H Q E h => ?_) (fun cdv A outer s H vs Q E hr h => ?_), g, F.kp, F.binds fun _ _ _ _ _ _ us hl => match us, hl with | [_, _, _, _], _ => rfl⟩
  · obtain ⟨h, v, tv, Fd, kvs, n, l, ps, d, ks, dl, rfl, _⟩ := h
    rfl
  · obtain ⟨h, v, tv, Fd, kvs, n, l, ps, d, ks, dl, rfl, dh, hk, n5, short, T', eFd, nx, dr, okr, dv, lds, q⟩ := h
    refine ⟨_, pss_cons (ps_if (PW.pt (pw_or (pt_not (pt_val (pe_callB (call_isD kit_tup) (by rfl) B.isi boot_isinstance (pa_cons (pv 3) (pa_cons (pe_bltn (v := .ty "tuple") (by rfl) B.tuple_ boot_tuple rfl) pa_nil))))) (pw_or1 (pt_cmpR op_ne (pe_callB call_len_seq (by rfl) B.len_ PySem.boot_len (pa_cons (pv 3) pa_nil)) pe_int (nomark _))))) (pss_one (ps_ret pe_bl)) pss_nil)
      (pss_cons (ps_if (PW.pt (pw_or (pt_not (pt_val (pe_can CP (hr.mono (by decide)) (by rfl) (pa_cons (pv 0) (pa_cons (pe_ix ix_tup (pv 3) pe_int (fun _ _ => rfl)) pa_nil))))) (pw_or1 (pt_not (pt_val (pe_can CP (hr.mono (by decide)) (by rfl) (pa_cons (pv 0) (pa_cons (pe_ix ix_tup (pv 3) pe_int (fun _ _ => rfl)) pa_nil)))))))) (pss_one (ps_ret pe_bl)) pss_nil)
      (pss_cons (ps_set (i := 4) scLIS.nd rfl (by first | exact Or.inl rfl | exact Or.inr rfl) (pe_can CR (hr.mono (by decide)) (by rfl) (pa_cons (pv 1) (pa_cons (pe_ix ix_tup (pv 3) pe_int (fun _ _ => rfl)) (pa_cons (pe_ix ix_tup (pv 3) pe_int (fun _ _ => rfl)) pa_nil)))))
      (pss_one (ps_ret (pe_and (pe_cmpR op_eq (pe_callB call_len_seq (by rfl) B.len_ PySem.boot_len (pa_cons (pv 4) pa_nil)) (pe_op op_add (pe_ix ix_tup (pv 2) pe_int (fun _ _ => rfl)) pe_int) (nomark _)) (pe_one (pe_can CK (hr.mono (by decide)) (by rfl) (pa_cons (pv 0) (pa_cons (pv 2) (pa_cons (pv 4) pa_nil)))))))))), ?_⟩
    have no : ¬ StandOf n ps d l ks dl → ∀ H', Keep [] H H' → Q (.bl false) H' := fun h H' k => q H' false k ⟨fun z => (nomatch z), fun z => absurd z h⟩
    refine ⟨tv, rfl, tv, dl, [], rfl, dv, _, rfl, ite2 (fun c => ?_) (fun c => ?_)⟩
    · refine ite2 (fun _ => no ?_ H (Keep.refl _ _)) (fun h => absurd rfl h)
      rintro ⟨p, p', rfl, _⟩
      exact absurd c (by simp [aTup])
    obtain ⟨ds, rfl⟩ : ∃ ds, dl = .tuple ds := by
      cases dl with
      | tuple ds => exact ⟨ds, rfl⟩
      | _ => exact absurd rfl c
    obtain ⟨T, xs, rfl, _, eT, dxs⟩ := tup_at dv
    have lx := dxs.len
    refine ⟨.ref T, rfl, T, xs, rfl, .inr (SqT.of eT), rfl, _, rfl, ite2 (fun c1 => ?_) (fun c1 => ?_)⟩
    · refine no ?_ H (Keep.refl _ _)
      rintro ⟨p, p', e, _⟩
      have e : ds = [tupI p, tupI p'] := by injection e
      rw [lx, e] at c1
      exact absurd c1 (by simp)
    have l2 : tupOf (.tuple ds) 2 = true := by
      have : ¬ (¬ V.int (xs.length : Int) = V.int 2) := fun h => c1 (by simpa using h)
      have e := V.int.inj (Classical.not_not.mp this)
      rw [lx] at e
      exact decide_eq_true e
    obtain ⟨a, a', e⟩ := two_of l2
    cases e
    rcases dxs with _ | ⟨da, _ | ⟨da', _ | _⟩⟩
    rename_i va va'
    have inj : ∀ p q : Pl, tupI p = tupI q → p = q := fun p q h => by
      have h1 := eqv_tupI p q
      have h2 := eqv_tupI q q
      rw [h, h2] at h1
      have h3 : decide (p = q) = true := by rw [← h1]; exact decide_eq_true rfl
      exact of_decide_eq_true h3
    have ld := lds _ rfl
    refine ⟨h, rfl, .ref T, rfl, T, _, 0, va, rfl, rfl, SqT.of eT, atI_nat (j := 0) rfl, h, va, n, ps, a, rfl, dh, hk, n5, short, da, fun es e => ld a (List.mem_cons_self) es e, fun H1 b1 k1 e1 => ⟨_, rfl, ite2 (fun c2 => ?_) (fun c2 => ?_)⟩⟩
    · refine ite2 (fun _ => no ?_ H1 k1) (fun h => absurd rfl h)
      rintro ⟨p, p', e, op, _⟩
      have ea : a = tupI p := by injection e with e; injection e
      have := e1.mpr ⟨p, ea, op⟩
      rw [this] at c2; cases c2
    have b1t : b1 = true := by revert c2; cases b1 <;> simp
    obtain ⟨p, rfl, op⟩ := e1.mp b1t
    have eT1 := k1 _ _ eT List.not_mem_nil
    refine ⟨h, rfl, .ref T, rfl, T, _, 1, va', rfl, rfl, SqT.of eT1, atI_nat (j := 1) rfl, h, va', n, ps, a', rfl, dh.keep k1, hk, n5, short, da'.keep k1, fun es e => ld a' (List.mem_cons_of_mem _ List.mem_cons_self) es e, fun H2 b2 k2 e2 => ⟨_, rfl, ite2 (fun c3 => ?_) (fun c3 => ?_)⟩⟩
    · refine no ?_ H2 (k1.trans k2)
      rintro ⟨p0, p', e, _, op', _⟩
      have ea : a' = tupI p' := by injection e with e; injection e with _ e; injection e
      have := e2.mpr ⟨p', ea, op'⟩
      rw [this] at c3; cases c3
    have b2t : b2 = true := by revert c3; cases b2 <;> simp
    obtain ⟨p', rfl, op'⟩ := e2.mp b2t
    have k12 := k1.trans k2
    have eT2 := k12 _ _ eT List.not_mem_nil
    refine ⟨.ref Fd, rfl, .ref T, rfl, T, _, 1, va', rfl, rfl, SqT.of eT2, atI_nat (j := 1) rfl, .ref T, rfl, T, _, 0, va, rfl, rfl, SqT.of eT2, atI_nat (j := 0) rfl, Fd, kvs, va', va, n, ps, d, p', p, rfl, (eFd.elim (fun e => .inl (k12 _ _ e List.not_mem_nil)) (fun ⟨o, e⟩ => .inr ⟨o, k12 _ _ e List.not_mem_nil⟩)), nx.keep k12, hk, T', short, da'.keep k12, da.keep k12, op', op, fun H3 L us zs k3 nL eL dus rw_ => ?_⟩
    refine of_set ?_
    dsimp only [List.set]
    have k13 := k12.trans k3
    obtain ⟨Tr, ur, rfl, _, eTr, dur⟩ := tup_at (show Dt [] H v (.tuple [.int l, .tuple (ks.map prD)]) from dr)
    obtain ⟨v2, rfl⟩ : ∃ v2, ur = [.int l, v2] := by
      rcases dur with _ | ⟨q1, _ | ⟨q2, _ | _⟩⟩
      cases q1
      exact ⟨_, rfl⟩
    have lus : us.length = zs.length := by rw [dus.len, List.length_map]
    have sy := Dp_sym T' op op'
    have st : StandOf n ps d l ks (.tuple [tupI p, tupI p']) ↔ Dp ps d p p' = l ∧ ∀ k ∈ ks, ∀ z, At n ps d p' p z k.1 → ∀ i b w, z = [i, b] → (b, w) ∈ (pr ps i).na → k.2 ≤ w := by
      constructor
      · rintro ⟨r, r', e, _, _, h1, h2⟩
        have e1 : tupI p = tupI r := by injection e with e; injection e
        have e2 : tupI p' = tupI r' := by injection e with e; injection e with _ e; injection e
        rw [inj _ _ e1, inj _ _ e2]
        exact ⟨h1, h2⟩
      · rintro ⟨h1, h2⟩
        exact ⟨p, p', rfl, op, op', h1, h2⟩
    refine ⟨.ref L, rfl, L, us, rfl, .inl (SqL.of eL), .ref Tr, rfl, Tr, _, 0, .int l, rfl, rfl, SqT.of (k13 _ _ eTr List.not_mem_nil), atI_nat (j := 0) rfl, l, 1, rfl, rfl, rfl, _, rfl, ite2 (fun c4 => ?_) (fun c4 => ?_)⟩
    rotate_left
    · refine no (fun s => c4 ?_) _ k13
      have := (st.mp s).1
      refine decide_eq_true ?_
      rw [lus, rw_.1, ← sy, this]
    have el : (zs.length : Int) = l + 1 := by
      have c4 := of_decide_eq_true c4
      injection c4 with c4
      rw [← lus]; exact c4
    have edl : Dp ps d p' p = l := by have := rw_.1; omega
    refine ⟨h, rfl, .ref Tr, rfl, .ref L, rfl, h, .ref Tr, L, n, l, ps, ks, us, zs, rfl, dh.keep k13, hk, dr.keep k13, okr, eL, dus, el, fun z mz => ?_, fun H4 b k4 eb => q H4 b (k13.trans k4) ?_⟩
    · obtain ⟨i, gi⟩ := List.mem_iff_getElem?.mp mz
      exact (rw_.2 i z gi).1
    rw [eb, st]
    have kb : ∀ k ∈ ks, 0 ≤ k.1 ∧ k.1 ≤ l := fun k mk => rising_in okr.2.2.1 k mk
    constructor
    · refine fun hf => ⟨by rw [sy]; exact edl, fun k mk z az i b' w ez mw => ?_⟩
      obtain ⟨k0, kl⟩ := kb k mk
      have hi : k.1.toNat < zs.length := by omega
      have gz : zs[k.1.toNat]? = some zs[k.1.toNat] := List.getElem?_eq_getElem hi
      obtain ⟨oz, h1, h2⟩ := rw_.2 _ _ gz
      have : z = zs[k.1.toNat] := At.same T' op' op az ⟨oz, by rw [h1]; omega, by rw [h2]; omega⟩
      rw [← this, ez] at gz
      exact hf k mk i b' w gz mw
    · rintro ⟨_, hs⟩ k mk i b' w gz mw
      obtain ⟨k0, kl⟩ := kb k mk
      obtain ⟨oz, h1, h2⟩ := rw_.2 _ _ gz
      exact hs k mk _ ⟨oz, by rw [h1]; omega, by rw [h2]; omega⟩ i b' w rfl mw
end
end Rw

namespace Rw
open PySem PySem.Spec PyProof.Rows L2
theorem lockNx {H : Hp} {Fd : Addr} {kvs : List (List Key × V)} {o : Obj} {R : Pl → Pl → Prop} {A : Pl → Prop} {m : Nat} (e : H Fd = some (.dT kvs)) (h : Nxs H kvs R A m) : Nxs (upd H Fd (.frz o (.dT kvs))) kvs R A m := ⟨fun p a => by
  obtain ⟨L, ts, qs, e1, e2, e3, e4⟩ := h.at_ p a
  have ne : L ≠ Fd := fun z => by rw [z, e] at e2; cases e2
  exact ⟨L, ts, qs, e1, by rw [upd_ne ne]; exact e2, e3.keep (fun t xs et => by
    have ne : t ≠ Fd := fun z => by rw [z, e] at et; cases et
    rw [upd_ne ne]; exact et), e4⟩, h.inj⟩
mutual
def tupO : PyData → Bool
  | .int _ => true
  | .tuple ds => tupOs ds
  | _ => false
def tupOs : List PyData → Bool
  | [] => true
  | d :: ds => tupO d && tupOs ds
end
mutual
theorem dt_keepO {av bv : List Addr} {H G : Hp} (k : KeepT H G) (off : ∀ a xs, H a = some (.tup xs) → a ∉ bv) : ∀ (d : PyData) (v : V), Dt av H v d → tupO d = true → Dt bv G v d
  | _, _, .int i, _ => .int i
  | .tuple ds, _, .tup n e s, h => .tup (off _ _ e) (k _ _ e) (dts_keepO k off ds _ s (by simpa only [tupO] using h))
  | .none, _, _, h => by simp [tupO] at h
  | .bool _, _, _, h => by simp [tupO] at h
  | .str _, _, _, h => by simp [tupO] at h
  | .list _, _, _, h => by simp [tupO] at h
  | .dict _, _, _, h => by simp [tupO] at h
theorem dts_keepO {av bv : List Addr} {H G : Hp} (k : KeepT H G) (off : ∀ a xs, H a = some (.tup xs) → a ∉ bv) : ∀ (ds : List PyData) (vs : List V), Dts av H vs ds → tupOs ds = true → Dts bv G vs ds
  | [], _, .nil, _ => .nil
  | d :: ds, _, .cons x t, h => by
    simp only [tupOs, Bool.and_eq_true] at h
    exact .cons (dt_keepO k off d _ x h.1) (dts_keepO k off ds _ t h.2)
end
theorem tupOs_map {α : Type} {f : α → PyData} (h : ∀ x, tupO (f x) = true) : ∀ xs : List α, tupOs (xs.map f) = true
  | [] => rfl
  | x :: xs => by simp only [List.map_cons, tupOs, h x, tupOs_map h xs, Bool.and_self]
theorem tupO_prD (k : Int × Int) : tupO (prD k) = true := by simp [prD, tupO, tupOs]
theorem tupO_rope (l : Int) (ks : List (Int × Int)) : tupO (ropeD l ks) = true := by simp only [ropeD, tupO, tupOs, tupOs_map tupO_prD, Bool.and_self]
theorem tupO_house (n : Int) (ps : List Pi) : tupO (houseD n (ps.map Pi.dat)) = true := by
  have : ∀ p : Pi, tupO p.dat = true := fun p => by simp only [Pi.dat, pipeD, tupO, tupOs, tupOs_map tupO_prD, Bool.and_self]
  simp only [houseD, tupO, tupOs, tupOs_map this, Bool.and_self]
theorem Bnt.sh {d : PyData} (h : Bnt 2 d) : ShG d := by
  obtain ⟨a, b, c⟩ := h.od.shows (by decide)
  have e : Wt 2 = 969 := rfl
  have := h.wt
  rw [e] at this
  exact ⟨a, by omega, by omega, h.nl⟩
theorem bool_sh (b : Bool) : ShG (.bool b) := ⟨rfl, by simp [PyData.depth], by cases b <;> decide +kernel, fun h => by simp [PyData.hasDict] at h⟩
theorem stand_ti {n : Int} {ps : List Pi} {p q : Pl} (hk : HouseOk n ps) (short : ∀ p ∈ ps, p.l ≤ 10) (op : okP n ps p) (oq : okP n ps q) : TI 2 (.tuple [tupI p, tupI q]) := by
  have one : ∀ {z : Pl}, okP n ps z → TI 1 (tupI z) := fun {z} oz => by
    have := hk.len
    have := hk.n2
    rcases ok_cases oz with ⟨r, rfl, r0, r1⟩ | ⟨j, a, rfl, j0, j1, a0, a1⟩
    · refine .tup (by show 1 ≤ 6; decide) fun d m => ?_
      rw [List.mem_singleton.mp m]
      exact .int _ (by unfold cI; omega) (by unfold cI; omega)
    · have := short _ (pr_mem j0 j1).1
      refine .tup (by show 2 ≤ 6; decide) fun d m => ?_
      have m : d ∈ [PyData.int j, .int a] := m
      simp only [List.mem_cons, List.not_mem_nil, or_false] at m
      rcases m with rfl | rfl
      · exact .int _ (by unfold cI; omega) (by unfold cI; omega)
      · exact .int _ (by unfold cI; omega) (by unfold cI; omega)
  refine .tup (by show 2 ≤ 6; decide) fun d m => ?_
  simp only [List.mem_cons, List.not_mem_nil, or_false] at m
  rcases m with rfl | rfl
  · exact one op
  · exact one oq
theorem key_dataJ {G : Hp} {q : Addr} {p : Pl} (e : G q = some (.tup ((keyOf p).map kV))) : Dt [] G (.ref q) (tupI p) := by
  rw [keyOf_kV] at e
  exact .tup List.not_mem_nil e (Dts.ints p)
theorem nx_ofK {f : L2.St → Hp → Prop} {r : VK} {b c : L2.St → Hp → Prop} {σ : L2.St} {H : Hp} (h : f σ H) : ({ nx := f, rt := r, bk := b, ct := c } : Ends).nx σ H := h
theorem Bnt.len {d : PyData} (h : Bnt 2 d) : ∀ ds, d = .tuple ds → ∀ x ∈ ds, ∀ es, x = .tuple es → es.length ≤ 1000 := fun ds e x m es e2 => by
  subst e e2
  have e : Wt 2 = 969 := rfl
  have h1 := h.wt
  rw [e] at h1
  have h2 := wtA_mem m
  have h3 := wtA_len (xs := es)
  simp only [Rw.wt] at h1 h2
  omega
section
variable {P : Program} {w : World} {K : PySem.W.Frag} {mg : Str → Option Value} {base : Heap}
abbrev sSRt : Stmt := topS 50
abbrev nSRt : List Str := ["_law_stream_here", "_law_house_here", "_law_nexts_here", "_law_rope_here", "_law_tail", "_law_head", "_law_thing", "_law_kept"]
theorem scSRt : FnScope nSRt ["_law_stream_here", "_law_house_here", "_law_nexts_here", "_law_rope_here"] (defScope sSRt) := ⟨rfl, rfl, rfl, by decide +kernel, rfl, by decide +kernel, by decide +kernel⟩
def spSRt : Sp := fun vs H Q _ => ∃ (D C Fd : Addr) (h v : V) (b n l : Int) (kvs : List (List Key × V)) (ps : List Pi) (d : Int → Int → Int) (ks : List (Int × Int)), vs = [.ref D, h, .ref Fd, v] ∧ Dq H D C b ∧ 0 ≤ b ∧ b ≤ 100000 ∧ Dt [D] H h (houseD n (ps.map Pi.dat)) ∧ HouseOk n ps ∧ n ≤ 5 ∧ (∀ p ∈ ps, p.l ≤ 10) ∧ Tm n ps d ∧ H Fd = some (.dT kvs) ∧ Nxs H kvs (Adj ps) (okP n ps) 1000 ∧ (∀ p L, valV kvs (keyOf p) = some (.ref L) → L ≠ D) ∧ (kvs.length ≤ 200 ∧ ∀ x ∈ kvs, ∃ p, okP n ps p ∧ x.1 = keyOf p) ∧ Dt [D] H v (ropeD l ks) ∧ okR l ks ∧
  ∀ (H' : Hp), Q (.bl true) H'
theorem ok_sRt11 (h : Has K mg "_law_stands_right" sSRt) (B : Blt mg) (CI : Can P w K mg base "is_stand" ["house", "rope", "thing"] 6 spISd) (CL : Can P w K mg base "_law_is_stand" ["_law_house_here", "_law_nexts_here", "_law_rope_here", "_law_thing"] 3 spLIS) (CB : Can P w K mg base "_law_bent" ["_law_stream_here", "_law_thing"] 5 (spBen 2)) : CanG P w K mg base "_law_stands_right" ["_law_stream_here", "_law_house_here", "_law_nexts_here", "_law_rope_here"] 7 spSRt := by
  obtain ⟨f, fd, F, g⟩ := h
  refine ⟨f, fd, fnG_of (k := 6) F scSRt (fun vs H Q E h => ?_) (fun cdv A outer s H vs Q E hr hg h => ?_), g, F.kp, F.binds fun _ _ _ _ _ _ us hl => match us, hl with | [_, _, _, _], _ => rfl⟩
  · obtain ⟨D, C, Fd, h, v, b, n, l, kvs, ps, d, ks, rfl, _⟩ := h
    rfl
  · obtain ⟨D, C, Fd, h, v, b, n, l, kvs, ps, d, ks, rfl, dk, b0, hb, dh, hk, n5, short, T', eFd, nx, nl, kk, dr, okr, q⟩ := h
    refine ⟨_, PSs.nox (pss_cons (ps_lock (ps_for PassesOwn.never rfl (pi_keys (pv 2)) (pg_name (i := 4) scSRt.nd rfl (by first | exact Or.inl rfl | exact Or.inr rfl))
      (pss_one (ps_for PassesOwn.never rfl (pi_keys (pv 2)) (pg_name (i := 5) scSRt.nd rfl (by first | exact Or.inl rfl | exact Or.inr rfl))
      (pss_one (ps_for PassesOwn.never rfl (pi_list (pe_lst (pa_cons (pe_tup (pa_cons (pv 4) (pa_cons (pv 5) pa_nil))) (pa_cons (pe_can CB (hr.mono (by decide)) (by rfl) (pa_cons (pv 0) (pa_cons (pe_tup (pa_cons (pv 4) (pa_cons (pv 5) pa_nil))) pa_nil))) pa_nil)))) (pg_name (i := 6) scSRt.nd rfl (by first | exact Or.inl rfl | exact Or.inr rfl))
      (pss_cons (ps_set (i := 7) scSRt.nd rfl (by first | exact Or.inl rfl | exact Or.inr rfl) (pe_callB (cr_reprG hg (units70 hr)) (by rfl) B.repr_ boot_repr (pa_cons (pv 6) pa_nil)))
      (pss_cons (ps_if (pt_cmpR op_ne (pe_callB (cr_reprG hg (units70 hr)) (by rfl) B.repr_ boot_repr (pa_cons (pe_can CI (hr.mono (by decide)) (by rfl) (pa_cons (pv 1) (pa_cons (pv 3) (pa_cons (pv 6) pa_nil)))) pa_nil)) (pe_callB (cr_reprG hg (units70 hr)) (by rfl) B.repr_ boot_repr (pa_cons (pe_can CL (hr.mono (by decide)) (by rfl) (pa_cons (pv 1) (pa_cons (pv 2) (pa_cons (pv 3) (pa_cons (pv 6) pa_nil))))) pa_nil)) (nomark _)) (pss_one (ps_ret pe_bl)) pss_nil)
      (pss_one (ps_if (pt_cmpR op_ne (pe_callB (cr_reprG hg (units70 hr)) (by rfl) B.repr_ boot_repr (pa_cons (pv 6) pa_nil)) (pv 7) (nomark _)) (pss_one (ps_ret pe_bl)) pss_nil))))))))))
      (pss_one (ps_ret pe_bl))), ?_⟩
    obtain ⟨w0, eD⟩ := dk.lst
    have nFD : Fd ≠ D := fun e => by rw [e, eD] at eFd; cases eFd
    have nFC : Fd ≠ C := fun e => by
      obtain ⟨⟨cs, j, r, t, e1, e2, _⟩, _⟩ := dk
      rw [e, e2] at eFd; cases eFd
    refine ⟨Fd, .dT kvs, eFd, trivial, fun od => ?_⟩
    have ktL : KeepT H (upd H Fd (.frz od (.dT kvs))) := fun t xs e => by rw [upd_ne (fun z => by rw [z, eFd] at e; cases e)]; exact e
    have eL : (upd H Fd (.frz od (.dT kvs))) Fd = some (.frz od (.dT kvs)) := upd_same
    have nxL : Nxs (upd H Fd (.frz od (.dT kvs))) kvs (Adj ps) (okP n ps) 1000 := lockNx eFd nx
    have off : ∀ (a : Addr) (xs : List V), H a = some (.tup xs) → a ∉ ([] : List Addr) := fun _ _ _ => List.not_mem_nil
    have dhL := dt_keepO (bv := []) ktL off _ _ dh (tupO_house _ _)
    have drL := dt_keepO (bv := []) ktL off _ _ dr (tupO_rope _ _)
    have dkL : Dq (upd H Fd (.frz od (.dT kvs))) D C b := dk.other nFD nFC
    generalize upd H Fd (.frz od (.dT kvs)) = HL at ktL eL nxL dhL drL dkL ⊢
    obtain ⟨w1, eDL⟩ := dkL.lst
    have nFD' : Fd ∉ [D] := fun m => nFD (List.mem_singleton.mp m)
    have offL : ∀ (a : Addr) (xs : List V), HL a = some (.tup xs) → a ∉ ([] : List Addr) := fun _ _ _ => List.not_mem_nil
    have l200 := kk.1
    refine ⟨.ref Fd, rfl, Fd, od, rfl, .inr ⟨kvs, eL, for_it (walk_keysT (d := Fd) (o := od) (kvs := kvs)) (fun j σ J => ∃ (s4 s5 s6 s7 : Option V), σ = [some (.ref D), some h, some (.ref Fd), some v, s4, s5, s6, s7] ∧ Keep [D] HL J ∧ Dq J D C (b + 4000 * j)) ⟨_, _, _, _, rfl, Keep.refl _ _, dkL.mono (by omega)⟩ (fun j σ J _ p => ?_) (fun j x σ J0 J hj p y => ?_) (fun σ J p => ?_)⟩⟩
    · obtain ⟨_, _, _, _, _, kJ, _⟩ := p
      exact kJ _ _ eL nFD'
    · obtain ⟨s4, s5, s6, s7, rfl, kJ, dJ⟩ := p
      obtain ⟨rfl, k1, v1, q1, gk1, rfl, eq1⟩ := y
      have jl : j < kvs.length := (List.getElem?_eq_some_iff.mp gk1).1
      obtain ⟨p1, ok1, e1⟩ := kk.2 _ (List.mem_of_getElem? gk1)
      have e1 : k1 = keyOf p1 := e1
      subst e1
      have d1J := key_dataJ eq1
      refine gn_set ?_
      dsimp only [List.set]
      refine ⟨.ref Fd, rfl, Fd, od, rfl, .inr ⟨kvs, kJ _ _ eL nFD', for_it (walk_keysT (d := Fd) (o := od) (kvs := kvs)) (fun i σ M => ∃ (s5 s6 s7 : Option V), σ = [some (.ref D), some h, some (.ref Fd), some v, some (.ref q1), s5, s6, s7] ∧ Keep [D] J M ∧ Dq M D C (b + 4000 * j + 20 * i)) ⟨_, _, _, rfl, Keep.refl _ _, dJ.mono (by omega)⟩ (fun i σ M _ p => ?_) (fun i x σ M0 M hi p y => ?_) (fun σ M p => ?_)⟩⟩
      · obtain ⟨_, _, _, _, kM, _⟩ := p
        exact kM _ _ (kJ _ _ eL nFD') nFD'
      · obtain ⟨s5, s6, s7, rfl, kM, dM⟩ := p
        obtain ⟨rfl, k2, v2, q2, gk2, rfl, eq2⟩ := y
        have il : i < kvs.length := (List.getElem?_eq_some_iff.mp gk2).1
        obtain ⟨p2, ok2, e2⟩ := kk.2 _ (List.mem_of_getElem? gk2)
        have e2 : k2 = keyOf p2 := e2
        subst e2
        have d2M := key_dataJ eq2
        refine gn_set ?_
        dsimp only [List.set]
        obtain ⟨w2, eDJ⟩ := dJ.lst
        have d1M := dt_keepO (bv := []) (KeepT.D eDJ kM) (fun _ _ _ => List.not_mem_nil) _ _ d1J (by simp only [tupI, tupO]; exact tupOs_map (fun _ => rfl) _)
        have kLM := kJ.trans kM
        -- the stand itself
        refine ⟨.ref q1, rfl, .ref q2, rfl, show 2 ≤ sizeLine by decide, fun T1 nT1 => ⟨.ref D, rfl, .ref q1, rfl, .ref q2, rfl, show 2 ≤ sizeLine by decide, fun T2 nT2 => ?_⟩⟩
        have kT1 : Keep [] M (upd M T1 (.tup [.ref q1, .ref q2])) := Keep.new nT1
        have dT1 : Dt [] (upd M T1 (.tup [.ref q1, .ref q2])) (.ref T1) (.tuple [tupI p1, tupI p2]) := .tup List.not_mem_nil upd_same (.cons (d1M.keep kT1) (.cons (d2M.keep kT1) .nil))
        have dM1 := dM.keep kT1
        have d1M1 := d1M.keep kT1
        have d2M1 := d2M.keep kT1
        generalize upd M T1 (.tup [.ref q1, .ref q2]) = M1 at kT1 dT1 dM1 d1M1 d2M1 nT2 ⊢
        have kT2 : Keep [] M1 (upd M1 T2 (.tup [.ref q1, .ref q2])) := Keep.new nT2
        have dT2 : Dt [] (upd M1 T2 (.tup [.ref q1, .ref q2])) (.ref T2) (.tuple [tupI p1, tupI p2]) := .tup List.not_mem_nil upd_same (.cons (d1M1.keep kT2) (.cons (d2M1.keep kT2) .nil))
        have dM2 := dM1.keep kT2
        have dT12 := dT1.keep kT2
        generalize upd M1 T2 (.tup [.ref q1, .ref q2]) = M2 at kT2 dT2 dM2 dT12 ⊢
        have tO : tupO (.tuple [tupI p1, tupI p2]) = true := by
          have one : ∀ z : Pl, tupO (tupI z) = true := fun z => by simp only [tupI, tupO]; exact tupOs_map (fun _ => rfl) _
          simp only [tupO, tupOs, one, Bool.and_self]
        obtain ⟨w3, eD2⟩ := dM2.lst
        have offD : ∀ (a : Addr) (xs : List V), M2 a = some (.tup xs) → a ∉ [D] := fun a xs e m => by rw [List.mem_singleton.mp m, eD2] at e; cases e
        have tI := stand_ti hk short ok1 ok2
        refine ⟨D, C, _, .ref T2, _, rfl, dM2, ?_, dt_keepO (bv := [D]) (fun _ _ e => e) offD _ _ dT2 tO, by simp, tI, fun M3 r dr' k3 d3 hd bn => ?_⟩
        · have : (4000 * (j : Int)) ≤ 4000 * 200 := by omega
          omega
        refine ⟨show 2 ≤ sizeLine by decide, fun Ll nLl => ?_⟩
        have kLl : Keep [] M3 (upd M3 Ll (.lst [.ref T1, r])) := Keep.new nLl
        have eLl : (upd M3 Ll (.lst [.ref T1, r])) Ll = some (.lst [.ref T1, r]) := upd_same
        have dT13 : Dt [] M3 (.ref T1) (.tuple [tupI p1, tupI p2]) := dt_keepO (bv := []) (KeepT.D eD2 k3) (fun _ _ _ => List.not_mem_nil) _ _ dT12 tO
        have dX : Dts [] (upd M3 Ll (.lst [.ref T1, r])) [.ref T1, r] [.tuple [tupI p1, tupI p2], dr'] := .cons (dT13.keep kLl) (.cons (hd.nil.keep kLl) .nil)
        have dMX := d3.keep kLl
        have kLX : Keep [D] HL (upd M3 Ll (.lst [.ref T1, r])) := kLM.trans ((kT1.trans kT2).of.trans (k3.trans kLl.of))
        have kMX : Keep [D] J (upd M3 Ll (.lst [.ref T1, r])) := kM.trans ((kT1.trans kT2).of.trans (k3.trans kLl.of))
        generalize upd M3 Ll (.lst [.ref T1, r]) = X at kLl eLl dX dMX kLX kMX ⊢
        have ktX : KeepT HL X := KeepT.D eDL kLX
        have dhX := dt_keepO (bv := []) ktX offL _ _ dhL (tupO_house _ _)
        have drX := dt_keepO (bv := []) ktX offL _ _ drL (tupO_rope _ _)
        have eFX := kLX _ _ eL nFD'
        have nxX := nxL.keepD nl eDL kLX
        refine ⟨Ll, rfl, ⟨_, SqL.of eLl⟩, for_list (K := K) (a := Ll) (xs := [.ref T1, r]) (fun t σ Y => ∃ (s6 s7 : Option V), σ = [some (.ref D), some h, some (.ref Fd), some v, some (.ref q1), some (.ref q2), s6, s7] ∧ Keep [] X Y)
          ⟨_, _, rfl, Keep.refl _ _⟩ (fun t σ Y _ z => ?_) (fun t y σ Y gy z => ?_) (fun σ Y z => ?_)⟩
        · obtain ⟨_, _, _, kY⟩ := z
          exact SqL.of (kY _ _ eLl List.not_mem_nil)
        · obtain ⟨s6, s7, rfl, kY⟩ := z
          obtain ⟨dt, gdt, dty⟩ := (dX.keep kY).getv t gy
          have bt : Bnt 2 dt := by
            match t, gdt with
            | 0, gdt => cases gdt; exact Bnt.of tI
            | 1, gdt => cases gdt; exact bn
          refine gn_set ?_
          dsimp only [List.set]
          refine ⟨y, rfl, y, dt, [], rfl, dty, bt.sh, ?_⟩
          refine of_set ?_
          dsimp only [List.set]
          refine ⟨h, rfl, v, rfl, y, rfl, h, v, y, n, l, ps, d, ks, dt, rfl, dhX.keep kY, hk, T', drX.keep kY, okr, dty, fun Y1 c1 ky1 e1 => ⟨.bl c1, .bool c1, [], rfl, .bl c1, bool_sh c1, ?_⟩⟩
          have kY1 := kY.trans ky1
          refine ⟨h, rfl, .ref Fd, rfl, v, rfl, y, rfl, h, v, y, Fd, kvs, n, l, ps, d, ks, dt, rfl, dhX.keep kY1, hk, n5, short, T', .inr ⟨od, kY1 _ _ eFX List.not_mem_nil⟩, nxX.keep kY1, drX.keep kY1, okr, dty.keep ky1, bt.len, fun Y2 c2 ky2 e2 => ⟨.bl c2, .bool c2, [], rfl, .bl c2, bool_sh c2, ?_⟩⟩
          have ec : c1 = c2 := by rw [Bool.eq_iff_iff, e1, e2]
          subst ec
          refine ⟨rfl, _, rfl, ?_⟩
          rw [decide_eq_true (rfl : V.str (PyData.bool c1).shown = V.str (PyData.bool c1).shown)]
          refine iteF ?_
          refine nx_ofK ?_
          have kY2 := kY1.trans ky2
          refine ⟨y, rfl, y, dt, [], rfl, (dty.keep ky1).keep ky2, bt.sh, .str dt.shown, rfl, rfl, _, rfl, ?_⟩
          rw [decide_eq_true (rfl : V.str dt.shown = V.str dt.shown)]
          exact iteF ⟨_, _, rfl, kY2⟩
        · obtain ⟨s6, s7, rfl, kY⟩ := z
          exact ⟨_, _, _, rfl, kMX.trans kY.of, (dMX.keep kY).mono (by omega)⟩
      · obtain ⟨s5, s6, s7, rfl, kM, dM⟩ := p
        exact ⟨_, _, _, _, rfl, kJ.trans kM, dM.mono (by omega)⟩
    · obtain ⟨s4, s5, s6, s7, rfl, kJ, dJ⟩ := p
      exact ⟨kJ _ _ eL nFD', q _⟩
end
end Rw

namespace Rw
open PySem PySem.Spec PyProof.Rows L2
theorem rope_ti {l : Int} {ks : List (Int × Int)} (l0 : 0 ≤ l) (l1 : l ≤ 100000000000001) (lk : ks.length ≤ 5) (h : ∀ k ∈ ks, -1 ≤ k.1 ∧ k.1 ≤ 100000000000002 ∧ 0 ≤ k.2 ∧ k.2 ≤ 1000001) : TI 3 (.tuple [.int l, .tuple (ks.map prD)]) := by
  refine .tup (by show 2 ≤ 6; decide) fun d m => ?_
  simp only [List.mem_cons, List.not_mem_nil, or_false] at m
  rcases m with rfl | rfl
  · exact .int _ (by unfold cI; omega) (by unfold cI; omega)
  · refine .tup (by rw [List.length_map]; omega) fun d m => ?_
    obtain ⟨k, mk, rfl⟩ := List.mem_map.mp m
    obtain ⟨a, b, c, e⟩ := h k mk
    refine .tup (by show 2 ≤ 6; decide) fun d m => ?_
    have m : d ∈ [PyData.int k.1, .int k.2] := m
    simp only [List.mem_cons, List.not_mem_nil, or_false] at m
    rcases m with rfl | rfl
    · exact .int _ (by unfold cI; omega) (by unfold cI; omega)
    · exact .int _ (by unfold cI; omega) (by unfold cI; omega)
section
variable {P : Program} {w : World} {K : PySem.W.Frag} {mg : Str → Option Value} {base : Heap}
abbrev sLaw : Stmt := topS 51
abbrev nLaw : List Str := ["_law_script", "_law_stream_here", "_law_turn", "_law_rope_here", "_law_thing", "_law_house_here", "_law_nexts_here", "_law_stand", "_law_odd_here"]
theorem scLaw : FnScope nLaw ["_law_script"] (defScope sLaw) := ⟨rfl, rfl, rfl, by decide +kernel, rfl, by decide +kernel, by decide +kernel⟩
def spLaw (K : PySem.W.Frag) : Sp := fun vs H Q _ => ∃ (a : Addr) (ns : List Int), vs = [.ref a] ∧ SqL K H a (ns.map V.int) ∧ ns.length ≤ 63 ∧ ∀ H', Q (.bl true) H'
theorem ok_law {f : Addr} {fd : FuncData} (F : Fun K "law" "law" sLaw f fd) (B : Blt mg) (CS : Can P w K mg base "_law_stream" ["_law_script", "_law_own"] 1 (spStm K)) (CA : Can P w K mg base "_law_any_rope" ["_law_stream_here"] 2 spAnR) (CB : Can P w K mg base "_law_bent" ["_law_stream_here", "_law_thing"] 6 (spBen 3)) (CO : Can P w K mg base "_law_odd" ["_law_stream_here"] 2 spOdd) (CI : Can P w K mg base "is_rope" ["thing"] 4 spIRg) (CL : Can P w K mg base "_law_is_rope" ["_law_thing"] 2 spLIR) (CH : Can P w K mg base "_law_house" ["_law_stream_here", "_law_most", "_law_farthest", "_law_flaps"] 2 spHsm) (CN : Can P w K mg base "_law_nexts" ["_law_house_here"] 2 spNxL) (CD : Can P w K mg base "_law_drawn" ["_law_stream_here", "_law_house_here", "_law_nexts_here"] 3 spDrw) (CK : Can P w K mg base "is_stand" ["house", "rope", "thing"] 6 spISd) (CM : Can P w K mg base "_law_is_stand" ["_law_house_here", "_law_nexts_here", "_law_rope_here", "_law_thing"] 3 spLIS) (CR : CanG P w K mg base "_law_stands_right" ["_law_stream_here", "_law_house_here", "_law_nexts_here", "_law_rope_here"] 7 spSRt) :
    (∀ (s : Shared) (u : Value), BindsTo s fd ⟨[u], []⟩ [("_law_script", u)]) ∧ AtTop P w K mg base f fd "_law_script" (spLaw K) := by
  refine ⟨?_, atTop_of (k := 9) F scLaw ⟨rfl, by decide, by decide⟩ fun cdv s H v Q hr h => ?_⟩
  · obtain ⟨oc, od, kV, doc, pm, an, cdv, ct, osl, rfl, _, _⟩ := F.ex
    exact fun s u => .of_eq rfl
  · obtain ⟨a, ns, e, hS, hl, q⟩ := h
    cases e
    have hg : callerA.guards = some [] := rfl
    refine ⟨_, PSs.nox (pss_cons (ps_set (i := 1) scLaw.nd rfl (by first | exact Or.inl rfl | exact Or.inr rfl) (pe_can CS (hr.mono (by decide)) (by rfl) (pa_cons (pv 0) (pa_cons pe_int pa_nil))))
      (pss_cons (ps_for PassesOwn.never rfl (pi_range1 (by rfl) B.range_ (pa_cons pe_int pa_nil)) (pg_name (i := 2) scLaw.nd rfl (by first | exact Or.inl rfl | exact Or.inr rfl))
      (pss_cons (ps_set (i := 3) scLaw.nd rfl (by first | exact Or.inl rfl | exact Or.inr rfl) (pe_can CA (hr.mono (by decide)) (by rfl) (pa_cons (pv 1) pa_nil)))
      (pss_one (ps_for PassesOwn.never rfl (pi_list (pe_lst (pa_cons (pv 3) (pa_cons (pe_can CB (hr.mono (by decide)) (by rfl) (pa_cons (pv 1) (pa_cons (pv 3) pa_nil))) (pa_cons (pe_can CO (hr.mono (by decide)) (by rfl) (pa_cons (pv 1) pa_nil)) pa_nil))))) (pg_name (i := 4) scLaw.nd rfl (by first | exact Or.inl rfl | exact Or.inr rfl))
      (pss_one (ps_if (pt_cmpR op_ne (pe_callB (cr_reprG hg (units70 hr)) (by rfl) B.repr_ boot_repr (pa_cons (pe_can CI (hr.mono (by decide)) (by rfl) (pa_cons (pv 4) pa_nil)) pa_nil)) (pe_callB (cr_reprG hg (units70 hr)) (by rfl) B.repr_ boot_repr (pa_cons (pe_can CL (hr.mono (by decide)) (by rfl) (pa_cons (pv 4) pa_nil)) pa_nil)) (nomark _)) (pss_one (ps_ret pe_bl)) pss_nil))))))
      (pss_cons (ps_set (i := 5) scLaw.nd rfl (by first | exact Or.inl rfl | exact Or.inr rfl) (pe_can CH (hr.mono (by decide)) (by rfl) (pa_cons (pv 1) (pa_cons pe_int (pa_cons pe_int (pa_cons pe_int pa_nil))))))
      (pss_cons (ps_set (i := 6) scLaw.nd rfl (by first | exact Or.inl rfl | exact Or.inr rfl) (pe_can CN (hr.mono (by decide)) (by rfl) (pa_cons (pv 5) pa_nil)))
      (pss_cons (ps_asg (pe_can CD (hr.mono (by decide)) (by rfl) (pa_cons (pv 1) (pa_cons (pv 5) (pa_cons (pv 6) pa_nil)))) (pg_unl (by rfl) (pgs_cons (pg_name (i := 3) scLaw.nd rfl (by first | exact Or.inl rfl | exact Or.inr rfl)) (pgs_cons (pg_name (i := 7) scLaw.nd rfl (by first | exact Or.inl rfl | exact Or.inr rfl)) pgs_nil))))
      (pss_cons (ps_for PassesOwn.never rfl (pi_range1 (by rfl) B.range_ (pa_cons pe_int pa_nil)) (pg_name (i := 2) scLaw.nd rfl (by first | exact Or.inl rfl | exact Or.inr rfl))
      (pss_cons (ps_set (i := 8) scLaw.nd rfl (by first | exact Or.inl rfl | exact Or.inr rfl) (pe_can CO (hr.mono (by decide)) (by rfl) (pa_cons (pv 1) pa_nil)))
      (pss_one (ps_if (pt_cmpR op_ne (pe_callB (cr_reprG hg (units70 hr)) (by rfl) B.repr_ boot_repr (pa_cons (pe_can CK (hr.mono (by decide)) (by rfl) (pa_cons (pv 5) (pa_cons (pv 3) (pa_cons (pv 8) pa_nil)))) pa_nil)) (pe_callB (cr_reprG hg (units70 hr)) (by rfl) B.repr_ boot_repr (pa_cons (pe_can CM (hr.mono (by decide)) (by rfl) (pa_cons (pv 5) (pa_cons (pv 6) (pa_cons (pv 3) (pa_cons (pv 8) pa_nil))))) pa_nil)) (nomark _)) (pss_one (ps_ret pe_bl)) pss_nil))))
      (pss_one (ps_ret (pe_canG CR (hr.mono (by decide)) hg (by rfl) (pa_cons (pv 1) (pa_cons (pv 5) (pa_cons (pv 6) (pa_cons (pv 3) pa_nil))))))))))))), ?_⟩
    rw [show L2.start nLaw [.ref a] = [some (.ref a), none, none, none, none, none, none, none, none] from rfl]
    refine ⟨.ref a, rfl, a, ns, 11, rfl, hS, by decide, fun H1 D C k1 nD nC d1 => ?_⟩
    refine of_set ?_
    dsimp only [List.set]
    refine ⟨16, rfl, by decide, by decide, for_range (lo := 0) (n := 16) (fun t σ G => ∃ (s2 s3 s4 s5 s6 s7 s8 : Option V), σ = [some (.ref a), some (.ref D), s2, s3, s4, s5, s6, s7, s8] ∧ Dq G D C (11 + 200 * t))
      ⟨_, _, _, _, _, _, _, rfl, d1.mono (by omega)⟩ (fun t0 σ G ht z => ?_) (fun σ G z => ?_)⟩
    · obtain ⟨s2, s3, s4, s5, s6, s7, s8, rfl, dG⟩ := z
      have ht : t0 < 16 := ht
      refine gn_set ?_
      dsimp only [List.set]
      refine ⟨.ref D, rfl, D, C, _, rfl, dG, by omega, fun H2 rv l ks k2 d2 dr l0 l9 lk hks => ?_⟩
      refine of_set ?_
      dsimp only [List.set]
      have ti := rope_ti l0 l9 lk hks
      refine ⟨rv, rfl, .ref D, rfl, rv, rfl, D, C, _, rv, _, rfl, d2, by omega, dr, by simp, ti, fun H3 bv db k3 d3 hb bn => ?_⟩
      refine ⟨.ref D, rfl, D, C, _, rfl, d3, by omega, fun H4 ov dod k4 d4 ho mo => ?_⟩
      refine ⟨show 3 ≤ sizeLine by decide, fun Ll nLl => ?_⟩
      have kL : Keep [] H4 (upd H4 Ll (.lst [rv, bv, ov])) := Keep.new nLl
      have eL : (upd H4 Ll (.lst [rv, bv, ov])) Ll = some (.lst [rv, bv, ov]) := upd_same
      have dX : Dts [D] (upd H4 Ll (.lst [rv, bv, ov])) [rv, bv, ov] [.tuple [.int l, .tuple (ks.map prD)], db, dod] := .cons ((dr.keep (k3.trans k4)).keep kL.of) (.cons ((hb.keep k4).keep kL.of) (.cons (ho.keep kL.of) .nil))
      have dq := d4.keep kL
      generalize upd H4 Ll (.lst [rv, bv, ov]) = X at kL eL dX dq ⊢
      refine ⟨Ll, rfl, ⟨_, SqL.of eL⟩, for_list (K := K) (a := Ll) (xs := [rv, bv, ov]) (fun t σ Y => ∃ (s4 s5 s6 s7 s8 : Option V), σ = [some (.ref a), some (.ref D), some (.int (0 + (t0 : Int))), some rv, s4, s5, s6, s7, s8] ∧ Keep [] X Y)
        ⟨_, _, _, _, _, rfl, Keep.refl _ _⟩ (fun t σ Y _ z => ?_) (fun t y σ Y gy z => ?_) (fun σ Y z => ?_)⟩
      · obtain ⟨_, _, _, _, _, _, kY⟩ := z
        exact SqL.of (kY _ _ eL List.not_mem_nil)
      · obtain ⟨s4, s5, s6, s7, s8, rfl, kY⟩ := z
        obtain ⟨dt, gdt, dty⟩ := (dX.keep kY.of).getv t gy
        refine gn_set ?_
        dsimp only [List.set]
        refine ⟨y, rfl, y, dt, rfl, dty.nil, fun Y1 ky1 => ⟨.bl (isRope dt), .bool (isRope dt), [], rfl, .bl _, bool_sh _, ?_⟩⟩
        refine ⟨y, rfl, y, dt, rfl, dty.nil.keep ky1, .bl (isRope dt), .bool (isRope dt), [], rfl, .bl _, bool_sh _, rfl, _, rfl, ?_⟩
        rw [decide_eq_true (rfl : V.str (PyData.bool (isRope dt)).shown = V.str (PyData.bool (isRope dt)).shown)]
        exact iteF ⟨_, _, _, _, _, rfl, kY.trans ky1⟩
      · obtain ⟨s4, s5, s6, s7, s8, rfl, kY⟩ := z
        exact ⟨_, _, _, _, _, _, _, rfl, (dq.keep kY).mono (by omega)⟩
    obtain ⟨s2, s3, s4, s5, s6, s7, s8, rfl, dG⟩ := z
    refine nx_ofK ?_
    refine ⟨.ref D, rfl, D, C, _, 4, 3, 2, [D], rfl, by decide, by decide, by decide, by decide, by decide, by decide, dG, by omega, by omega, dG.tr, List.mem_singleton.mpr rfl, fun H2 r n ps k2 d2 dh ok hl4 n2 n5 => ?_⟩
    refine of_set ?_
    dsimp only [List.set]
    have hk : HouseOk n ps := ⟨ok.n1, ok.n16, by have := ok.len; omega, ok.ok⟩
    obtain ⟨d, T'⟩ := tree hk.n1 hk.len (fun p m => by have z := hk.ok p m; exact ⟨z.x0, by have := z.x1; omega, z.y0, by have := z.y1; omega, z.fit.l1⟩) ok.con
    have short : ∀ p ∈ ps, p.l ≤ 10 := fun p m => by have := hl4 p m; omega
    refine ⟨.ref r, rfl, .ref r, n, ps, d, rfl, dh.nil, hk, T', short, fun H3 Fd kvs k3 fF eF nx nl0 kk => ?_⟩
    refine of_set ?_
    dsimp only [List.set]
    obtain ⟨w2, eD2⟩ := d2.lst
    have d3 := d2.keep k3
    obtain ⟨w3, eD3⟩ := d3.lst
    have nl : ∀ p L, valV kvs (keyOf p) = some (.ref L) → L ≠ D := fun p L e z => by
      have := nl0 p L e
      rw [z, eD2] at this; cases this
    have nFD : Fd ∉ [D] := fun m => by
      rw [List.mem_singleton.mp m, eD2] at fF; cases fF
    refine ⟨.ref D, rfl, .ref r, rfl, .ref Fd, rfl, D, C, Fd, .ref r, _, n, ps, d, kvs, rfl, dh.keep k3.of, hk, T', short, n2, d3, by omega, by omega, eF, nx, nl, fun H4 L x S t1 t2 l ks p q' zs k4 d4 eL dx okr nS eS dt2 dt1 op oq dl rl hf => ?_⟩
    refine ⟨L, _, rfl, SqL.of eL, rfl, _, _, rfl, _, [], rfl, rfl, ?_⟩
    dsimp only [List.set]
    have eF4 := k4 _ _ eF nFD
    have nx4 := nx.keepD nl eD3 k4
    have dh4 := (dh.keep k3.of).keep k4
    obtain ⟨w4, eD4⟩ := d4.lst
    refine ⟨8, rfl, by decide, by decide, for_range (lo := 0) (n := 8) (fun t σ G => ∃ (s2 s8 : Option V), σ = [some (.ref a), some (.ref D), s2, some (.ref x), s4, some (.ref r), some (.ref Fd), some (.ref S), s8] ∧ Keep [D] H4 G ∧ Dq G D C (4000 + t))
      ⟨_, _, rfl, Keep.refl _ _, d4.mono (by omega)⟩ (fun t0 σ G ht z => ?_) (fun σ G z => ?_)⟩
    · obtain ⟨s2, s8, rfl, kG, dG⟩ := z
      have ht : t0 < 8 := ht
      refine gn_set ?_
      dsimp only [List.set]
      refine ⟨.ref D, rfl, D, C, _, rfl, dG, by omega, fun G1 ov dod kg dg ho mo => ?_⟩
      refine of_set ?_
      dsimp only [List.set]
      have k41 := kG.trans kg
      have dhG := dh4.keep k41
      have dxG := dx.keep k41
      have nxG := nx4.keepD nl eD4 k41
      have eFG := k41 _ _ eF4 nFD
      refine ⟨.ref r, rfl, .ref x, rfl, ov, rfl, .ref r, .ref x, ov, n, l, ps, d, ks, dod, rfl, dhG.nil, hk, T', dxG.nil, okr, ho.nil, fun Y1 c1 ky1 e1 => ⟨.bl c1, .bool c1, [], rfl, .bl c1, bool_sh c1, ?_⟩⟩
      refine ⟨.ref r, rfl, .ref Fd, rfl, .ref x, rfl, ov, rfl, .ref r, .ref x, ov, Fd, kvs, n, l, ps, d, ks, dod, rfl, dhG.nil.keep ky1, hk, n5, short, T', .inl (ky1 _ _ eFG List.not_mem_nil), nxG.keep ky1, dxG.nil.keep ky1, okr, ho.nil.keep ky1, (Bnt.odd mo).len, fun Y2 c2 ky2 e2 => ⟨.bl c2, .bool c2, [], rfl, .bl c2, bool_sh c2, ?_⟩⟩
      have ec : c1 = c2 := by rw [Bool.eq_iff_iff, e1, e2]
      subst ec
      refine ⟨rfl, _, rfl, ?_⟩
      rw [decide_eq_true (rfl : V.str (PyData.bool c1).shown = V.str (PyData.bool c1).shown)]
      have ky := ky1.trans ky2
      exact iteF ⟨_, _, rfl, k41.trans ky.of, (dg.keep ky).mono (by omega)⟩
    · obtain ⟨s2, s8, rfl, kG, dG⟩ := z
      refine nx_ofK ?_
      exact ⟨.ref D, rfl, .ref r, rfl, .ref Fd, rfl, .ref x, rfl, D, C, Fd, .ref r, .ref x, _, n, l, kvs, ps, d, ks, rfl, dG, by omega, by omega, dh4.keep kG, hk, n5, short, T', kG _ _ eF4 nFD, nx4.keepD nl eD4 kG, nl, kk, dx.keep kG, okr, fun H' => q H'⟩
end
end Rw

namespace Rw
open PySem PySem.Spec PyProof.Rows L2
theorem has_mk {K : PySem.W.Frag} {h : Heap} {mg : Str → Option Value} {x : Str} {st : Stmt} {f : Addr} (X : K.In h) (G : h.Ns mainGlobals mg) {od an : Option Addr} {sl : Array (Option Value)} {oc kV dc pm cd ct : Value}
    (a : PySem.W.nsIn K mainGlobals x = some (some (.ref f))) (l : K.lookup f = some ⟨oc, od, .func (PySem.W.fnOf x x (defArgs st) (defBody st) (defScope st) .none kV dc pm an cd ct), sl⟩) (c : PySem.W.codeIn K cd x = true) (k : PySem.W.keepIn K (.ref f) = true) : Has K mg x st :=
  ⟨f, _, fun_mk (st := st) l c k, PySem.W.mg_of X G a⟩
theorem cst_mk {K : PySem.W.Frag} {h : Heap} {mg : Str → Option Value} {x : Str} {i : Int} {t : Tok} (X : K.In h) (G : h.Ns mainGlobals mg) (a : PySem.W.nsIn K mainGlobals x = some (some (.int i t))) : ∃ t, mg x = some (.int i t) := ⟨t, PySem.W.mg_of X G a⟩
def HasPlan (K : PySem.W.Frag) (mg : Str → Option Value) : Prop := ∃ C f fd, Mk K C f ∧ Fun K "__init__" "Plan.__init__" sInit f fd ∧ mg "Plan" = some (.ref C) ∧ PlanTxt K C
theorem plan_has {K : PySem.W.Frag} {h : Heap} {mg : Str → Option Value} {C f : Addr} (X : K.In h) (G : h.Ns mainGlobals mg) {od an : Option Addr} {sl : Array (Option Value)} {oc kV dc pm cd ct : Value} (aC : PySem.W.nsIn K mainGlobals "Plan" = some (some (.ref C))) (a1 : PySem.W.findIn K (.ref C) "__init__" = some (some (.ref f))) (i1 : PySem.W.isFn K (.ref f) = true)
    (l1 : K.lookup f = some ⟨oc, od, .func (PySem.W.fnOf "__init__" "Plan.__init__" (defArgs sInit) (defBody sInit) (defScope sInit) .none kV dc pm an cd ct), sl⟩) (c1 : PySem.W.codeIn K cd "Plan.__init__" = true) (k1 : PySem.W.keepIn K (.ref f) = true) (pg : PySem.W.plainGet K C Str.empty = true) (hd : PySem.W.hasDictIn K C = true) (po : PySem.W.plainOver K C = true)
    (sa : PySem.W.findIn K (.ref C) "__setattr__" = some (some (.builtin "object.__setattr__"))) (mk : PySem.W.makesIn K C = true) (kc : PySem.W.keepIn K (.ref C) = true) (n1 : PySem.W.findIn K (.ref C) "built" = some none) (n2 : PySem.W.findIn K (.ref C) "pipes" = some none) (n3 : PySem.W.findIn K (.ref C) "doors" = some none) (n4 : PySem.W.findIn K (.ref C) "gaps" = some none) (n5 : PySem.W.findIn K (.ref C) "towards" = some none) : HasPlan K mg :=
  ⟨C, f, _, ⟨mk, a1, i1, kc⟩, fun_mk (st := sInit) l1 c1 k1, PySem.W.mg_of X G aC, ⟨⟨pg, hd, po, sa⟩, n1, n2, n3, n4, n5⟩⟩
theorem end_all {P : Program} {w : World} {K : PySem.W.Frag} {mg : Str → Option Value} {fa : Addr} (B : Blt mg) (hfa : mg "law" = some (.ref fa)) (hL : Has K mg "law" sLaw)
    (c_REACH : ∃ t, mg "REACH" = some (.int 100000000000000 t))
    (c_KNOTS : ∃ t, mg "KNOTS" = some (.int 4 t))
    (c_WIDE : ∃ t, mg "WIDE" = some (.int 1000000 t))
    (hP : HasPlan K mg)
    (h1 : Has K mg "doors_of" sDoors)
    (h2 : Has K mg "spread_from" sSpread)
    (h3 : Has K mg "are_in_one_pipe" sOnePipe)
    (h4 : Has K mg "exits_of" sExits)
    (h5 : Has K mg "shortest" sShort)
    (h6 : Has K mg "gap_of" sGap)
    (h7 : Has K mg "place_at" sPAt)
    (h8 : Has K mg "room_at" sRAt)
    (h9 : Has K mg "length_of" sLen)
    (h10 : Has K mg "at_along" sAl)
    (h11 : Has K mg "place_along" sPAl)
    (h12 : Has K mg "row_of" sRow)
    (h13 : Has K mg "is_whole" sWhole)
    (h14 : Has K mg "is_within" sWithin)
    (h15 : Has K mg "is_tuple_of" sTupOf)
    (h16 : Has K mg "is_place" sPlaceP)
    (h17 : Has K mg "are_rising_pairs" sRPg)
    (h18 : Has K mg "is_rope" sIRg)
    (h19 : Has K mg "is_narrower" sNar)
    (h20 : Has K mg "knots_fit" sKFt)
    (h21 : Has K mg "is_stand_in" sStI)
    (h22 : Has K mg "is_stand" sISd)
    (h23 : Has K mg "_law_stream" sStm)
    (h24 : Has K mg "_law_take" sTk)
    (h25 : Has K mg "_law_house" sHsm)
    (h26 : Has K mg "_law_spot" sSpt)
    (h27 : Has K mg "_law_places" sPls)
    (h28 : Has K mg "_law_nexts" sNxL)
    (h29 : Has K mg "_law_row" sLRo)
    (h30 : Has K mg "_law_rope" sRpe)
    (h31 : Has K mg "_law_widths" sWds)
    (h32 : Has K mg "_law_knots_lie" sKLi)
    (h33 : Has K mg "_law_drawn" sDrw)
    (h34 : Has K mg "_law_odd" sOdd)
    (h35 : Has K mg "_law_whole" sLWh)
    (h36 : Has K mg "_law_is_rope" sLIR)
    (h37 : Has K mg "_law_any_rope" sAnR)
    (h38 : Has K mg "_law_bent" sBen)
    (h39 : Has K mg "_law_is_place" sIPl)
    (h40 : Has K mg "_law_is_stand" sLIS)
    (h41 : Has K mg "_law_stands_right" sSRt)
    : ∃ fd : FuncData, (∀ (s : Shared) (u : Value), BindsTo s fd ⟨[u], []⟩ [("_law_script", u)]) ∧ ∀ base : Heap, K.In base → base.Ns mainGlobals mg → AtTop P w K mg base fa fd "_law_script" (spLaw K) := by
  obtain ⟨f, fd, F, g⟩ := hL
  have e := hfa.symm.trans g
  cases e
  obtain ⟨CP, fI, fdI, MI, FI, gI, XP⟩ := hP
  have all : ∀ base : Heap, (∀ (s : Shared) (u : Value), BindsTo s fd ⟨[u], []⟩ [("_law_script", u)]) ∧ AtTop P w K mg base fa fd "_law_script" (spLaw K) := fun base => by
    have cDo : Can P w K mg base _ _ _ _ := ok_doors h1 B
    have cSp : Can P w K mg base _ _ _ _ := ok_spread h2 B
    have cPl := (⟨fI, fdI, MI, ok_init FI B XP cDo cSp, gI, FI.binds fun _ _ _ _ _ _ us hl => match us, hl with | [_, _], _ => rfl⟩ : CanMk P w K mg base "Plan" CP ["self", "house"] 2 (spInit CP))
    have cOP : Can P w K mg base _ _ _ _ := ok_onePipe h3 B
    have cEx : Can P w K mg base _ _ _ _ := ok_exits h4 B XP
    have cSh := ok_short h5 B XP cEx
    have cGa := ok_gap h6 B cOP cSh
    have cPA : Can P w K mg base _ _ _ _ := ok_pAt h7 XP
    have cRA : Can P w K mg base _ _ _ _ := ok_rAt h8 XP
    have cLn : Can P w K mg base _ _ _ _ := ok_len h9 B
    have cAl : Can P w K mg base _ _ _ _ := ok_al h10
    have cPg := ok_pAl h11 cLn cAl cPA
    have cRw := ok_row h12 B XP cOP cSh cRA
    have cWh : Can P w K mg base _ _ _ _ := ok_whole h13 B
    have cWi := ok_within h14 cWh
    have cTO : Can P w K mg base _ _ _ _ := ok_tupOf h15 B
    have cIPl := ok_placeP h16 B cTO cWi
    have cRPg := ok_rPg h17 B cTO cWi
    have cIRg := ok_iRg h18 B c_REACH c_KNOTS c_WIDE cTO cWi cRPg
    have cNar : Can P w K mg base _ _ _ _ := ok_nar h19 B XP
    have cKFt := ok_kFt h20 cNar cPg
    have cStI := ok_stI h21 XP cTO cIPl cGa cRw cKFt
    have cISd := ok_iSd h22 cPl cStI
    have cStm : Can P w K mg base _ _ _ _ := ok_stm h23 B
    have cTk : Can P w K mg base _ _ _ _ := ok_tk h24 B
    have cHs := ok_hsm h25 B cTk
    have cSpo : Can P w K mg base _ _ _ _ := ok_spt h26 B
    have cPs : Can P w K mg base _ _ _ _ := ok_pls h27 B
    have cNx := ok_nxL h28 B cPs cSpo
    have cLR : Can P w K mg base _ _ _ _ := ok_lRo h29 B
    have cRo := ok_rpe h30 B cTk
    have cWd : Can P w K mg base _ _ _ _ := ok_wds h31 B
    have cKL := ok_kLi h32 B cWd
    have cDr := ok_drw h33 B cTk cPs cLR cRo cKL
    have cOd := ok_odd h34 B cTk
    have cLW : Can P w K mg base _ _ _ _ := ok_lWh h35 B
    have cLIR := ok_lIR h36 B cLW
    have cAn := (ok_anR (w := w) h37 B cTk)
    have cBe := ok_ben h38 B cTk cOd
    have cLP := ok_iPl h39 B cLW cPs
    have cLS := ok_lIS h40 B cLP cLR cKL
    have cSR := ok_sRt11 h41 B cISd cLS (cBe 2)
    exact ok_law F B cStm cAn (cBe 3) cOd cIRg cLIR cHs cNx cDr cISd cLS cSR
  exact ⟨fd, (all Inhabited.default).1, fun base _ _ => (all base).2⟩
end Rw
open PySem PySem.W PyProof.Rows
set_option maxHeartbeats 0 in
theorem PySem.Challenge.cw_ropewarren_k11_ropes_and_stands_holds : PySem.Challenge.rw_ropewarren_k11_ropes_and_stands.Holds := by
  w_on; o_law; k_head; (case hw => w_witness2)
  k_fill
  refine Rw.walk_top (l := PySem.Challenge.rw_ropewarren_k11_ropes_and_stands) (n := 63) (x := "_law_script") (sp := fun w => Rw.spLaw _) rfl (by decide) rfl (fun w h Y => PySem.W.kIn_of Y) ?F (fun _ _ a ns hl _ hS => ⟨a, ns, rfl, hS, hl, fun _ => rfl⟩)
  case F =>
    intro w mg fa h KX G hmg0
    have hmg : mg "law" = some (.ref fa) := hmg0
    clear hmg0
    refine' Rw.end_all (mg := mg) ?B hmg ?hL  ?c_REACH ?c_KNOTS ?c_WIDE  ?hP  ?h1 ?h2 ?h3 ?h4 ?h5 ?h6 ?h7 ?h8 ?h9 ?h10 ?h11 ?h12 ?h13 ?h14 ?h15 ?h16 ?h17 ?h18 ?h19 ?h20 ?h21 ?h22 ?h23 ?h24 ?h25 ?h26 ?h27 ?h28 ?h29 ?h30 ?h31 ?h32 ?h33 ?h34 ?h35 ?h36 ?h37 ?h38 ?h39 ?h40 ?h41
    case B =>
      refine' ⟨PySem.W.mg_none_of KX G ?b1, PySem.W.mg_none_of KX G ?b2, PySem.W.mg_none_of KX G ?b3, PySem.W.mg_none_of KX G ?b4, PySem.W.mg_none_of KX G ?b5, PySem.W.mg_none_of KX G ?b6, PySem.W.mg_none_of KX G ?b7, PySem.W.mg_none_of KX G ?b8, PySem.W.mg_none_of KX G ?b9, PySem.W.mg_none_of KX G ?b10, PySem.W.mg_none_of KX G ?b11, PySem.W.mg_none_of KX G ?b12, PySem.W.mg_none_of KX G ?b13, PySem.W.mg_none_of KX G ?b14, PySem.W.mg_none_of KX G ?b15, PySem.W.mg_none_of KX G ?b16, PySem.W.mg_none_of KX G ?b17, PySem.W.mg_none_of KX G ?b18, PySem.W.mg_none_of KX G ?b19⟩
      (case b1 => k_is)
      (case b2 => k_is)
      (case b3 => k_is)
      (case b4 => k_is)
      (case b5 => k_is)
      (case b6 => k_is)
      (case b7 => k_is)
      (case b8 => k_is)
      (case b9 => k_is)
      (case b10 => k_is)
      (case b11 => k_is)
      (case b12 => k_is)
      (case b13 => k_is)
      (case b14 => k_is)
      (case b15 => k_is)
      (case b16 => k_is)
      (case b17 => k_is)
      (case b18 => k_is)
      (case b19 => k_is)
    case c_REACH =>
      refine' Rw.cst_mk KX G ?a
      (case a => k_is)
    case c_KNOTS =>
      refine' Rw.cst_mk KX G ?a
      (case a => k_is)
    case c_WIDE =>
      refine' Rw.cst_mk KX G ?a
      (case a => k_is)
    case hP =>
      refine' Rw.plan_has KX G ?aC ?a1 ?i1 ?l1 ?c1 ?k1 ?pg ?hd ?po ?sa ?mk ?kc ?n1 ?n2 ?n3 ?n4 ?n5
      (case aC => k_is)
      (case a1 => k_is)
      (case i1 => k_is)
      (case l1 => k_is)
      (case c1 => k_is)
      (case k1 => k_is)
      (case pg => k_is)
      (case hd => k_is)
      (case po => k_is)
      (case sa => k_is)
      (case mk => k_is)
      (case kc => k_is)
      (case n1 => k_is)
      (case n2 => k_is)
      (case n3 => k_is)
      (case n4 => k_is)
      (case n5 => k_is)
    case hL =>
      refine' Rw.has_mk KX G ?a ?l ?c ?k
      (case a => k_is); (case l => k_is); (case c => k_is); (case k => k_is)
    case h1 =>
      refine' Rw.has_mk KX G ?a ?l ?c ?k
      (case a => k_is); (case l => k_is); (case c => k_is); (case k => k_is)
    case h2 =>
      refine' Rw.has_mk KX G ?a ?l ?c ?k
      (case a => k_is); (case l => k_is); (case c => k_is); (case k => k_is)
    case h3 =>
      refine' Rw.has_mk KX G ?a ?l ?c ?k
      (case a => k_is); (case l => k_is); (case c => k_is); (case k => k_is)
    case h4 =>
      refine' Rw.has_mk KX G ?a ?l ?c ?k
      (case a => k_is); (case l => k_is); (case c => k_is); (case k => k_is)
    case h5 =>
      refine' Rw.has_mk KX G ?a ?l ?c ?k
      (case a => k_is); (case l => k_is); (case c => k_is); (case k => k_is)
    case h6 =>
      refine' Rw.has_mk KX G ?a ?l ?c ?k
      (case a => k_is); (case l => k_is); (case c => k_is); (case k => k_is)
    case h7 =>
      refine' Rw.has_mk KX G ?a ?l ?c ?k
      (case a => k_is); (case l => k_is); (case c => k_is); (case k => k_is)
    case h8 =>
      refine' Rw.has_mk KX G ?a ?l ?c ?k
      (case a => k_is); (case l => k_is); (case c => k_is); (case k => k_is)
    case h9 =>
      refine' Rw.has_mk KX G ?a ?l ?c ?k
      (case a => k_is); (case l => k_is); (case c => k_is); (case k => k_is)
    case h10 =>
      refine' Rw.has_mk KX G ?a ?l ?c ?k
      (case a => k_is); (case l => k_is); (case c => k_is); (case k => k_is)
    case h11 =>
      refine' Rw.has_mk KX G ?a ?l ?c ?k
      (case a => k_is); (case l => k_is); (case c => k_is); (case k => k_is)
    case h12 =>
      refine' Rw.has_mk KX G ?a ?l ?c ?k
      (case a => k_is); (case l => k_is); (case c => k_is); (case k => k_is)
    case h13 =>
      refine' Rw.has_mk KX G ?a ?l ?c ?k
      (case a => k_is); (case l => k_is); (case c => k_is); (case k => k_is)
    case h14 =>
      refine' Rw.has_mk KX G ?a ?l ?c ?k
      (case a => k_is); (case l => k_is); (case c => k_is); (case k => k_is)
    case h15 =>
      refine' Rw.has_mk KX G ?a ?l ?c ?k
      (case a => k_is); (case l => k_is); (case c => k_is); (case k => k_is)
    case h16 =>
      refine' Rw.has_mk KX G ?a ?l ?c ?k
      (case a => k_is); (case l => k_is); (case c => k_is); (case k => k_is)
    case h17 =>
      refine' Rw.has_mk KX G ?a ?l ?c ?k
      (case a => k_is); (case l => k_is); (case c => k_is); (case k => k_is)
    case h18 =>
      refine' Rw.has_mk KX G ?a ?l ?c ?k
      (case a => k_is); (case l => k_is); (case c => k_is); (case k => k_is)
    case h19 =>
      refine' Rw.has_mk KX G ?a ?l ?c ?k
      (case a => k_is); (case l => k_is); (case c => k_is); (case k => k_is)
    case h20 =>
      refine' Rw.has_mk KX G ?a ?l ?c ?k
      (case a => k_is); (case l => k_is); (case c => k_is); (case k => k_is)
    case h21 =>
      refine' Rw.has_mk KX G ?a ?l ?c ?k
      (case a => k_is); (case l => k_is); (case c => k_is); (case k => k_is)
    case h22 =>
      refine' Rw.has_mk KX G ?a ?l ?c ?k
      (case a => k_is); (case l => k_is); (case c => k_is); (case k => k_is)
    case h23 =>
      refine' Rw.has_mk KX G ?a ?l ?c ?k
      (case a => k_is); (case l => k_is); (case c => k_is); (case k => k_is)
    case h24 =>
      refine' Rw.has_mk KX G ?a ?l ?c ?k
      (case a => k_is); (case l => k_is); (case c => k_is); (case k => k_is)
    case h25 =>
      refine' Rw.has_mk KX G ?a ?l ?c ?k
      (case a => k_is); (case l => k_is); (case c => k_is); (case k => k_is)
    case h26 =>
      refine' Rw.has_mk KX G ?a ?l ?c ?k
      (case a => k_is); (case l => k_is); (case c => k_is); (case k => k_is)
    case h27 =>
      refine' Rw.has_mk KX G ?a ?l ?c ?k
      (case a => k_is); (case l => k_is); (case c => k_is); (case k => k_is)
    case h28 =>
      refine' Rw.has_mk KX G ?a ?l ?c ?k
      (case a => k_is); (case l => k_is); (case c => k_is); (case k => k_is)
    case h29 =>
      refine' Rw.has_mk KX G ?a ?l ?c ?k
      (case a => k_is); (case l => k_is); (case c => k_is); (case k => k_is)
    case h30 =>
      refine' Rw.has_mk KX G ?a ?l ?c ?k
      (case a => k_is); (case l => k_is); (case c => k_is); (case k => k_is)
    case h31 =>
      refine' Rw.has_mk KX G ?a ?l ?c ?k
      (case a => k_is); (case l => k_is); (case c => k_is); (case k => k_is)
    case h32 =>
      refine' Rw.has_mk KX G ?a ?l ?c ?k
      (case a => k_is); (case l => k_is); (case c => k_is); (case k => k_is)
    case h33 =>
      refine' Rw.has_mk KX G ?a ?l ?c ?k
      (case a => k_is); (case l => k_is); (case c => k_is); (case k => k_is)
    case h34 =>
      refine' Rw.has_mk KX G ?a ?l ?c ?k
      (case a => k_is); (case l => k_is); (case c => k_is); (case k => k_is)
    case h35 =>
      refine' Rw.has_mk KX G ?a ?l ?c ?k
      (case a => k_is); (case l => k_is); (case c => k_is); (case k => k_is)
    case h36 =>
      refine' Rw.has_mk KX G ?a ?l ?c ?k
      (case a => k_is); (case l => k_is); (case c => k_is); (case k => k_is)
    case h37 =>
      refine' Rw.has_mk KX G ?a ?l ?c ?k
      (case a => k_is); (case l => k_is); (case c => k_is); (case k => k_is)
    case h38 =>
      refine' Rw.has_mk KX G ?a ?l ?c ?k
      (case a => k_is); (case l => k_is); (case c => k_is); (case k => k_is)
    case h39 =>
      refine' Rw.has_mk KX G ?a ?l ?c ?k
      (case a => k_is); (case l => k_is); (case c => k_is); (case k => k_is)
    case h40 =>
      refine' Rw.has_mk KX G ?a ?l ?c ?k
      (case a => k_is); (case l => k_is); (case c => k_is); (case k => k_is)
    case h41 =>
      refine' Rw.has_mk KX G ?a ?l ?c ?k
      (case a => k_is); (case l => k_is); (case c => k_is); (case k => k_is)
