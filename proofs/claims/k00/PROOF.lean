import PyProof.Rows.All
import Wide.All
import OpenK.AllK
import Wide.FinOn
import PyProof.ReprRoads
import HandS.ForMost
import HandS.Flow
import HandS.Wide
import HandS.IsInst
import HandS.Strs
import HandS.SetFor
import HandS.TupAny
import HandS.Rev
import HandS.NoneIn
import HandS.Style
import HandS.SortInts
import HandS.More
import KE.DataMinMax
import KE.GoesMore
import KE.DatumOrd
import HandS.Walk
import HandS.DictSub
import KE.KDictDisplayH
import KE.SortData
import HandS.Conv
import HandS.Text
import HandS.FStr
import HandS.Deep
import HandS.RaiseMore
import HandS.ForExc
import HandS.ExcInit
import HandS.ExcField
import HandS.TryMany
import KE.KExcIs
import PySem.Challenge.RW_ropewarren_k00_first_steps
set_option Elab.async false
set_option linter.all false
set_option maxRecDepth 100000
set_option maxHeartbeats 4000000
namespace Rw
open PySem PySem.Spec PyProof.Rows L2
/-! heaps of which all but a few addresses stay -/
def Keep (av : List Addr) (H H' : Hp) : Prop := ∀ b o, H b = some o → b ∉ av → H' b = some o
theorem Keep.refl (av : List Addr) (H : Hp) : Keep av H H := fun _ _ e _ => e
theorem Keep.trans {av : List Addr} {H H1 H2 : Hp} (x : Keep av H H1) (y : Keep av H1 H2) : Keep av H H2 := fun b o e n => y b o (x b o e n) n
theorem Keep.new {av : List Addr} {H : Hp} {p : Addr} {o : HO} (n : H p = none) : Keep av H (upd H p o) := fun b z e _ => by
  rw [upd_ne (ne_of_none e n)]; exact e
theorem Keep.put {av : List Addr} {H : Hp} {p : Addr} {o : HO} (n : p ∈ av) : Keep av H (upd H p o) := fun b z e nb => by
  rw [upd_ne (show b ≠ p from fun q => nb (by rw [q]; exact n))]; exact e
theorem Keep.mono {av av' : List Addr} {H H' : Hp} (x : Keep av H H') (s : ∀ a ∈ av, a ∈ av') : Keep av' H H' := fun b o e n => x b o e fun q => n (s b q)
/-! a fresh address may be left out of what is left out -/
theorem Keep.drop {av : List Addr} {H H' : Hp} {p : Addr} (n : H p = none) (x : Keep (p :: av) H H') : Keep av H H' := fun b o e nb => x b o e fun q => by
  rcases List.mem_cons.mp q with q | q
  · exact ne_of_none e n q
  · exact nb q
/-! data: what stands at a value, without the addresses av -/
mutual
inductive Dt (av : List Addr) (H : Hp) : V → PyData → Prop
  | non : Dt av H .non .none
  | bl (b : Bool) : Dt av H (.bl b) (.bool b)
  | int (i : Int) : Dt av H (.int i) (.int i)
  | str (x : Str) : Dt av H (.str x) (.str x)
  | lst {a : Addr} {xs : List V} {ds : List PyData} : a ∉ av → H a = some (.lst xs) → Dts av H xs ds → Dt av H (.ref a) (.list ds)
  | tup {a : Addr} {xs : List V} {ds : List PyData} : a ∉ av → H a = some (.tup xs) → Dts av H xs ds → Dt av H (.ref a) (.tuple ds)
  | dct {a : Addr} : a ∉ av → H a = some (.dK []) → Dt av H (.ref a) (.dict [])
inductive Dts (av : List Addr) (H : Hp) : List V → List PyData → Prop
  | nil : Dts av H [] []
  | cons {v : V} {vs : List V} {d : PyData} {ds : List PyData} : Dt av H v d → Dts av H vs ds → Dts av H (v :: vs) (d :: ds)
end
mutual
theorem Dt.map {av av' : List Addr} {H H' : Hp} (f : ∀ b o, H b = some o → b ∉ av → H' b = some o ∧ b ∉ av') : ∀ (d : PyData) (v : V), Dt av H v d → Dt av' H' v d
  | _, _, .non => .non
  | _, _, .bl b => .bl b
  | _, _, .int i => .int i
  | _, _, .str x => .str x
  | .list ds, _, .lst n e s => .lst (f _ _ e n).2 (f _ _ e n).1 (Dts.map f ds _ s)
  | .tuple ds, _, .tup n e s => .tup (f _ _ e n).2 (f _ _ e n).1 (Dts.map f ds _ s)
  | _, _, .dct n e => .dct (f _ _ e n).2 (f _ _ e n).1
theorem Dts.map {av av' : List Addr} {H H' : Hp} (f : ∀ b o, H b = some o → b ∉ av → H' b = some o ∧ b ∉ av') : ∀ (ds : List PyData) (vs : List V), Dts av H vs ds → Dts av' H' vs ds
  | _, _, .nil => .nil
  | d :: ds, _, .cons h t => .cons (Dt.map f d _ h) (Dts.map f ds _ t)
end
theorem Dt.keep {av : List Addr} {H H' : Hp} {v : V} {d : PyData} (x : Dt av H v d) (k : Keep av H H') : Dt av H' v d := Dt.map (fun b o e n => ⟨k b o e n, n⟩) d v x
theorem Dts.keep {av : List Addr} {H H' : Hp} {v : List V} {d : List PyData} (x : Dts av H v d) (k : Keep av H H') : Dts av H' v d := Dts.map (fun b o e n => ⟨k b o e n, n⟩) d v x
theorem Dt.more {av : List Addr} {H : Hp} {v : V} {d : PyData} {p : Addr} (x : Dt av H v d) (n : H p = none) : Dt (p :: av) H v d :=
  Dt.map (fun b o e nb => ⟨e, fun q => (List.mem_cons.mp q).elim (ne_of_none e n) nb⟩) d v x
theorem Dts.more {av : List Addr} {H : Hp} {v : List V} {d : List PyData} {p : Addr} (x : Dts av H v d) (n : H p = none) : Dts (p :: av) H v d :=
  Dts.map (fun b o e nb => ⟨e, fun q => (List.mem_cons.mp q).elim (ne_of_none e n) nb⟩) d v x
theorem Dt.less {av av' : List Addr} {H : Hp} {v : V} {d : PyData} (x : Dt av H v d) (s : ∀ a ∈ av', a ∈ av) : Dt av' H v d :=
  Dt.map (fun b o e nb => ⟨e, fun q => nb (s b q)⟩) d v x
theorem Dts.less {av av' : List Addr} {H : Hp} {v : List V} {d : List PyData} (x : Dts av H v d) (s : ∀ a ∈ av', a ∈ av) : Dts av' H v d :=
  Dts.map (fun b o e nb => ⟨e, fun q => nb (s b q)⟩) d v x
theorem Dts.len {av : List Addr} {H : Hp} : ∀ {vs : List V} {ds : List PyData}, Dts av H vs ds → vs.length = ds.length
  | _, _, .nil => rfl
  | _, _, .cons _ t => by rw [List.length_cons, List.length_cons, t.len]
theorem Dts.get {av : List Addr} {H : Hp} : ∀ {vs : List V} {ds : List PyData} (i : Nat) {d : PyData}, Dts av H vs ds → ds[i]? = some d → ∃ v, vs[i]? = some v ∧ Dt av H v d
  | _, _, _, _, .nil, e => by simp at e
  | _, _, 0, _, .cons h _, e => by simp at e; subst e; exact ⟨_, rfl, h⟩
  | _, _, i + 1, d, .cons _ t, e => by
    obtain ⟨u, h1, h2⟩ := Dts.get (i := i) (d := d) t (by simpa using e)
    exact ⟨u, by simpa using h1, h2⟩
theorem Dts.getv {av : List Addr} {H : Hp} : ∀ {vs : List V} {ds : List PyData} (i : Nat) {v : V}, Dts av H vs ds → vs[i]? = some v → ∃ d, ds[i]? = some d ∧ Dt av H v d
  | _, _, _, _, .nil, e => by simp at e
  | _, _, 0, _, .cons h _, e => by simp at e; subst e; exact ⟨_, rfl, h⟩
  | _, _, i + 1, d, .cons _ t, e => by
    obtain ⟨u, h1, h2⟩ := Dts.getv (i := i) (v := d) t (by simpa using e)
    exact ⟨u, by simpa using h1, h2⟩
theorem Dts.app {av : List Addr} {H : Hp} : ∀ {vs us : List V} {ds es : List PyData}, Dts av H vs ds → Dts av H us es → Dts av H (vs ++ us) (ds ++ es)
  | _, _, _, _, .nil, y => y
  | _, _, _, _, .cons h t, y => .cons h (Dts.app t y)
theorem Dts.mem {av : List Addr} {H : Hp} : ∀ {vs : List V} {ds : List PyData} {v : V}, Dts av H vs ds → v ∈ vs → ∃ d ∈ ds, Dt av H v d
  | _, _, _, .nil, e => by simp at e
  | _, _, v, .cons (d := d) h t, e => by
    rcases List.mem_cons.mp e with e | e
    · subst e; exact ⟨d, List.mem_cons_self, h⟩
    · obtain ⟨d', m, x⟩ := Dts.mem t e
      exact ⟨d', List.mem_cons_of_mem _ m, x⟩
theorem Dts.take {av : List Addr} {H : Hp} : ∀ {vs : List V} {ds : List PyData} (n : Nat), Dts av H vs ds → Dts av H (vs.take n) (ds.take n)
  | _, _, 0, _ => .nil
  | _, _, _ + 1, .nil => .nil
  | _, _, n + 1, .cons r t => .cons r (Dts.take n t)
theorem Dts.drop {av : List Addr} {H : Hp} : ∀ {vs : List V} {ds : List PyData} (n : Nat), Dts av H vs ds → Dts av H (vs.drop n) (ds.drop n)
  | _, _, 0, r => r
  | _, _, _ + 1, .nil => .nil
  | _, _, n + 1, .cons _ t => Dts.drop n t
theorem Dts.rev {av : List Addr} {H : Hp} : ∀ {vs : List V} {ds : List PyData}, Dts av H vs ds → Dts av H vs.reverse ds.reverse
  | _, _, .nil => .nil
  | _, _, .cons r t => by rw [List.reverse_cons, List.reverse_cons]; exact Dts.app t.rev (.cons r .nil)
theorem Dts.ints {av : List Addr} {H : Hp} : ∀ ns : List Int, Dts av H (ns.map V.int) (ns.map PyData.int)
  | [] => .nil
  | n :: ns => .cons (.int n) (Dts.ints ns)
end Rw

namespace Rw
open PySem PySem.Spec PyProof.Rows L2
/-! ### set(xs) of a list of hin, its order left open -/
abbrev set0 (w : World) : Obj := { cls := .type "set", dict := none, data := .set #[] 0 (.fresh 0 0 (!w.params.followText "set-order")) }
section
variable {P : Program} {w : World} {A : Around} {E : Value → Shared → Prop} {s : Shared}
theorem set_of_list {l : Addr} {its : Array Value} (ns : List Int) {Q : Value → Shared → Prop} (calm : A.handled = none) (hl : s.heap.IsList l its) (hin : IntsAre its.toList ns) (few : ns.length + 1 < scanBound)
    (h : ∀ (h' : Heap) (tk c : Nat), SetR w h' s.heap.objs.size (fun j => decide (j ∈ ns)) c → c ≤ ns.length → (∀ b o, s.heap.get? b = some o → h'.get? b = some o) → Q (.ref s.heap.objs.size) { s with heap := h', toks := tk }) :
    wpAny (model P w) A (call (.type "set") [.ref l]) Q E s := by
  have isz : its.size = ns.length := (Array.length_toList (xs := its)).symm.trans (IntsAre.length hin)
  obtain ⟨c, tl, m1⟩ := F.called_set.mro
  have m2 := F.called_set.made
  have m3 := F.called_set.sub
  refine wpAny_call (codeAny_of_tree (show wpAny _ _ (callAny (.type "set") _) _ _ _ from ?_))
  refine wpAny_pure ⟨Code.quiet_builtin _ (by decide +kernel), codeAny_builtin (F.entry_type_call) ?_⟩
  rw [Around.under_plain (weight_type_call_type "set" [Value.ref l] []) rfl]
  have m4 := F.called_set.notType
  have m5 := F.called_set.canCreate
  have m6 := F.typeCall_set_1 (Value.ref l)
  repeat any_goals (first | assumption | wp_step)
  refine codeAny_mono (code_set_led1 (Value.ref l) (E := E) (Q₁ := fun ob s1 => ob = .ref s.heap.objs.size ∧ s1 = { s with heap := s.heap.push (set0 w) }) ⟨rfl, rfl⟩) fun r s1 hr => ?_
  cases r with
  | error e => exact hr
  | ok fl =>
    cases fl with
    | ret ob =>
      obtain ⟨rfl, rfl⟩ := hr
      have at0 : (s.heap.push (set0 w)).get? s.heap.objs.size = some (set0 w) := Heap.get?_push_size _ rfl
      have ty : Shared.TypeIs { s with heap := s.heap.push (set0 w) } (.ref s.heap.objs.size) "set" := ⟨_, at0, rfl⟩
      have m7 := F.called_set.init.lookup
      have m8 := F.called_set.init.bind (Value.ref s.heap.objs.size)
      repeat any_goals (first | assumption | wp_step)
      refine codeAny_mono (codeAny_call_builtin (R := wants (fun r s2 => r = .none ∧ ∃ h' tk c, s2 = { s with heap := h', toks := tk } ∧ SetR w h' s.heap.objs.size (fun j => decide (j ∈ ns)) c ∧ c ≤ ns.length ∧ (∀ b o, s.heap.get? b = some o → h'.get? b = some o)) E)
        F.called_set.init.plain F.entry_set_init (check_set_init_1 ty ?_)) fun r2 s2 hr2 => ?_
      · obtain ⟨⟨oc, od, odata, osl⟩, e0, e1, nl, e2⟩ := hl
        simp only at e1 e2
        subst e1; subst e2
        have e3 : (s.heap.push (set0 w)).get? l = some { cls := .type "list", dict := od, data := .seq its nl, slots := osl } := Heap.get?_push_of_some _ e0
        have n1 := F.sub_list_set
        have n2 := F.sub_list_frozenset
        have n3 : (Value.type "list" == Value.type "dict") = false := by decide
        have hl1 : (s.heap.push (set0 w)).IsList l its := ⟨_, e3, rfl, nl, rfl⟩
        unfold Builtin.«set.__init__» noKeywords Builtin.Frozenset.updateFrom
        generalize gi : pyIter = PI
        wp_walk
        subst gi
        refine wpAny_pyIter_list hl1 (wpAny_bind (wpAny_runValue ?_))
        have lt0 : l < s.heap.objs.size := Heap.lt_size e0
        have calm3 : A.in1.in1.in1.handled = none := by simp [calm]
        have ne1 : l ≠ (s.heap.push (set0 w)).objs.size := by
          rw [Heap.size_push]; exact Nat.ne_of_lt (Nat.lt_succ_of_lt lt0)
        have ne2 : s.heap.objs.size ∉ [(s.heap.push (set0 w)).objs.size, l] := by
          rw [Heap.size_push]
          intro q
          simp only [List.mem_cons, List.not_mem_nil, or_false] at q
          exact q.elim (Nat.ne_of_lt (Nat.lt_succ_self _)) (Nat.ne_of_gt lt0)
        have val : ∀ (i : Nat) (v : Value), its[i]? = some v → ∃ k t, ns[i]? = some k ∧ v = .int k t := fun i v hv => by
          have hi : i < ns.length := by rw [← isz]; exact (Array.getElem?_eq_some_iff.mp hv).1
          obtain ⟨t, e⟩ := PyProof.Rows.IntsAre.int_at hin i v (by rw [Array.getElem?_toList]; exact hv)
          refine ⟨ns[i], t, List.getElem?_eq_getElem hi, e.trans ?_⟩
          rw [List.getD_eq_getElem?_getD, List.getElem?_eq_getElem hi]; rfl
        refine set_update_ints ((Walks.list calm3 _ l ne1 its).toS) s.heap.objs.size ne2 ns isz few val (its.size - 0) 0 _ (by omega) (Nat.zero_le _) ⟨⟨_, Heap.get?_push_size _ rfl, rfl, rfl⟩, (hl1.push _)⟩ ?start ?fin
        case start => exact ⟨0, Nat.le_refl 0, setR_new_at (Heap.get?_push_of_some _ at0)⟩
        case fin =>
          intro s3 c3 mv le3 R3
          obtain ⟨h3, g3, d3, t3, o3⟩ := s3
          obtain rfl : g3 = s.gens := mv.gens
          obtain rfl : d3 = s.drawn := mv.drawn
          obtain rfl : o3 = s.os := mv.os
          show wpAny _ _ _ _ _ _
          refine wpAny_pure (show wpAny _ _ (ret Value.none) _ _ _ from ?_)
          rw [isz] at le3
          refine wpAny_pure ⟨rfl, h3, t3, c3, rfl, R3, le3, fun b o e => ?_⟩
          have lb : b < s.heap.objs.size := Heap.lt_size e
          refine mv.heap b o (fun q => ?_) (Heap.get?_push_of_some _ (Heap.get?_push_of_some _ e))
          rw [Heap.size_push] at q
          simp only [List.mem_cons, List.not_mem_nil, or_false] at q
          exact q.elim (Nat.ne_of_lt lb) (Nat.ne_of_lt (Nat.lt_succ_of_lt lb))
      · cases r2 with
        | error e => exact hr2
        | ok f2 =>
          cases f2 with
          | ret r =>
            obtain ⟨rfl, h', tk, c3, rfl, R3, le3, k3⟩ := hr2
            repeat any_goals (first | assumption | wp_step)
            exact h _ _ _ R3 le3 k3
          | _ => exact hr2.elim
    | _ => exact hr.elim
end
section
variable {X : Cx}
def rSetL (K : PySem.W.Frag) (w : World) : List V → Hp → VK → Prop := fun xs H Q => ∃ (p : Addr) (ns : List Int), xs = [.ref p] ∧ SqL K H p (ns.map V.int) ∧ ns.length ≤ 1000 ∧
  ∀ (a : Addr) (c : Nat), H a = none → c ≤ ns.length → Q (.ref a) (upd H a (SetO w a (fun j => decide (j ∈ ns)) c))
theorem cr_setL (hc : X.calm = true) : CallR X (.type "set") (rSetL X.K X.w) := by
  intro pins s σ H xs us Q I r h
  obtain ⟨p, ns, rfl, hS, few, q⟩ := h
  rw [Vals.ref1 r]
  obtain ⟨its, rv, pl, hz⟩ := I.list hS
  refine set_of_list ns (I.ok.hd hc) pl.isList (by simpa using intsAre_of rv) (by unfold scanBound; omega) fun h' tk c R le k => ?_
  exact ⟨.ref _, _, I.laid (t' := tk) k (Nat.le_refl _) (setO_new R), rfl, q _ c (I.hok.fresh (Nat.le_refl _)) le⟩
end
end Rw

namespace Rw
open PySem PySem.Spec PyProof.Rows L2
/-! ### the law's own def, called where nothing is being shown (callerA), over a base that is known -/
def AtTop (P : Program) (w : World) (K : PySem.W.Frag) (mg : Str → Option Value) (base : Heap) (f : Addr) (fd : FuncData) (x : Str) (sp : Sp) : Prop :=
  ∀ (s : Shared) (H : Hp) (u : Value) (v : V) (Q : VK), Env0 P w K mg base callerA [] s H → BindsTo s fd ⟨[u], []⟩ [(x, u)] → RelV v u → sp [v] H Q E0 →
    codeAny (model P w) callerA (.call (.ref f) ⟨[u], []⟩) (CR CX0 [] P w H s Q E0) s
section
variable {P : Program} {w : World} {K : PySem.W.Frag} {mg : Str → Option Value} {base : Heap}
theorem atTop_of {f : Addr} {x q y : Str} {st : Stmt} {fd : FuncData} {N : List Str} {k : Nat} {sp : Sp} (F : Fun K x q st f fd) (S : FnScope N [y] (defScope st)) (room : Room (k + 1) callerA)
    (body : ∀ (cdv : Value) (s : Shared) (H : Hp) (v : V) (Q : VK), Room k (callerA.deeper (envOfC q (defScope st) s.heap.objs.size f cdv)) → sp [v] H Q E0 →
      ∃ t, PSs (cxOf CX0 P w K mg base N q (defScope st) f cdv callerA [] s H E0) (defBody st) t ∧ t { nx := fun _ H' => Q .non H', rt := Q } (start N [v]) H) : AtTop P w K mg base f fd y sp := by
  obtain ⟨oc, od, kV, doc, pm, an, cdv, ct, osl, rfl, lk, hcd⟩ := F.ex
  intro s H u v Q e0 hb r hsp
  have KX : K.In s.heap := e0.mod.kin.keeps (fun b o e => (e0.bs b o e).1)
  have lim : s.heap.NoLimit := e0.mod.nolimit.keeps (fun b o e => (e0.bs b o e).1)
  have kinds : ∀ z ∈ [y].zip [u], (defScope st).names.lookup z.1 = some .local ∨ ((defScope st).names.lookup z.1 = some .cell ∧ ((cellsFrom (s.heap.objs.size + 1) (defScope st).names []).lookup z.1).isSome = true) := fun ⟨n, v⟩ hz => by
    rcases S.par n (List.of_mem_zip hz).1 with g | g
    · exact Or.inl g
    · exact Or.inr ⟨g, PySem.W.cellsFrom_some _ _ _ (.inl g)⟩
  refine codeAny_call_function room.depth (KX _ _ lk) rfl S.co S.gen rfl (PySem.W.codeRec_of KX hcd) (hb _ _ _ _ (wpAny_newFunctionEnv_cells S.kind kinds fun env he s1 ic => ?_))
  subst he
  refine ⟨lim.keeps ic.toInCall.keep, codeAny_func ?_⟩
  obtain ⟨t, ht, hq⟩ := body cdv s H v Q (room.deeper _) hsp
  have I : Inv (cxOf CX0 P w K mg base N q (defScope st) f cdv callerA [] s H E0) [] (start N [v]) H s1 := inv_start S room.hd e0 rfl (.cons r .nil) ic
  refine wpAny_mono (ht.run [] s1 (start N [v]) H _ I hq) (fun fl s2 hs => ?_) fun e s2 hs => hs
  cases fl with
  | ret u2 =>
    obtain ⟨v2, σ2, H2, J, rv, z⟩ := hs
    exact ⟨v2, H2, J.os, J.bare, J.base, J.hok, rv, z⟩
  | next =>
    obtain ⟨σ2, H2, J, z⟩ := hs
    exact ⟨V.non, H2, J.os, J.bare, J.base, J.hok, rfl, z⟩
  | brk =>
    obtain ⟨_, _, _, z⟩ := hs
    exact False.elim z
  | cont =>
    obtain ⟨_, _, _, z⟩ := hs
    exact False.elim z
theorem law_at {mb : Str → Option Value} {fa a : Addr} {fd : FuncData} {x : Str} {sp : Sp} {s1 : Shared} {vs : List Value} {ns : List Int}
    (KX : K.In s1.heap) (hns : s1.heap.Ns mainGlobals mg) (hb : s1.heap.Ns builtinsNs mb) (hbb : ∀ x : Str, x ≠ "__name__" → mb x = bootBuiltins x) (lim : s1.heap.NoLimit) (hg : s1.gens = #[])
    (ha : s1.heap.get? a = some { cls := .type "list", data := .seq vs.toArray }) (hi : IntsAre vs ns) (hl : ns.length ≤ sizeLine)
    (F : ∀ base : Heap, K.In base → base.Ns mainGlobals mg → AtTop P w K mg base fa fd x sp) (hbind : ∀ (s : Shared) (u : Value), BindsTo s fd ⟨[u], []⟩ [(x, u)])
    (hsp : ∀ H : Hp, Only H → SqL K H a (ns.map V.int) → sp [.ref a] H (fun v _ => v = .bl true) E0) :
    codeAny (model P w) callerA (.call (.ref fa) ⟨[.ref a], []⟩) (fun r s' => r = .ok (.ret (.bool true)) ∧ OldK s1.heap s'.heap ∧ s'.os = s1.os ∧ AllBare s'.gens) s1 := by
  have core : ∀ H : Hp, Only H → SqL K H a (ns.map V.int) → HOk P w H s1.heap → (∀ b, H b ≠ none → b = a) → (H a ≠ none → K.lookup a = none) →
      codeAny (model P w) callerA (.call (.ref fa) ⟨[.ref a], []⟩) (fun r s' => r = .ok (.ret (.bool true)) ∧ OldK s1.heap s'.heap ∧ s'.os = s1.os ∧ AllBare s'.gens) s1 := by
    intro H hO hS hok hA hK
    have hid : ∀ {b : Addr} {o : Obj}, s1.heap.get? b = some o → H b = none → (hidT s1.heap H).get? b = some o := fun e n => hidT_get e n
    have only : ∀ {b : Addr} {u : HO}, H b = some u → b = a := fun {b u} z => hA b (by rw [z]; exact Option.some_ne_none _)
    have dict_no : ∀ {b : Addr} {o : Obj} {es : Array DictEntry} {ep : Nat}, s1.heap.get? b = some o → o.data = .dict es ep → H b = none := fun {b o es ep} e d => by
      cases z : H b with
      | none => rfl
      | some u =>
        have e' := only z
        subst e'
        rw [ha] at e; cases e
        exact nomatch (show Data.seq vs.toArray _ = Data.dict es ep from d)
    have ns_of : ∀ {b : Addr} {m : Str → Option Value}, s1.heap.Ns b m → (hidT s1.heap H).Ns b m := fun {b m} ⟨o, es, ep, e, d, r⟩ => ⟨o, es, ep, hid e (dict_no e d), d, r⟩
    have kb : K.In (hidT s1.heap H) := fun b o e => hid (KX b o e) (by
      cases z : H b with
      | none => rfl
      | some u =>
        have e' := only z
        subst e'
        rw [hK (by rw [z]; exact Option.some_ne_none _)] at e; cases e)
    have md : Mod K mg (hidT s1.heap H) := ⟨kb, ns_of hns, ⟨mb, ns_of hb, hbb⟩, let ⟨mc, h1, h2⟩ := lim; ⟨mc, ns_of h1, h2⟩⟩
    have e0 : Env0 P w K mg (hidT s1.heap H) callerA [] s1 H := ⟨rfl, md, fun b o e => of_hidT e, Nat.le_of_eq (hidT_size _ _), trivial, fun b z => absurd (show b ∈ ([] : List Addr) from z) List.not_mem_nil, hok, .of_eq hg⟩
    refine codeAny_mono (F _ kb (ns_of hns) s1 H (.ref a) (.ref a) _ e0 (hbind s1 (.ref a)) rfl (hsp H hO hS)) fun r s2 h => ?_
    cases r with
    | error e => exact False.elim h
    | ok fl =>
      cases fl with
      | next => exact False.elim h
      | brk => exact False.elim h
      | cont => exact False.elim h
      | ret u =>
        obtain ⟨v, H2, os, bare, un, hok2, r2, z⟩ := h
        obtain rfl : v = .bl true := z
        obtain rfl : u = Value.bool true := r2
        refine ⟨rfl, OldK.of_keep (fun b o e => ?_), os, bare⟩
        rcases hO b with z | ⟨ob, xs, z⟩
        · exact un.keep b o e z (fun y => absurd (show b ∈ ([] : List Addr) from y) List.not_mem_nil) List.not_mem_nil
        · obtain ⟨e1, _⟩ := hok b _ z
          obtain ⟨e2, _⟩ := hok2 b _ (un.frzs b ob _ z)
          rw [e] at e1; cases e1
          exact e2
  have rv := vals_ints hi
  have ln := hi.length
  cases hk : K.lookup a with
  | some o =>
    have e := KX a o hk
    rw [ha] at e
    cases e
    exact core (fun _ => none) (fun _ => .inl rfl) (.inr ⟨_, vs.toArray, _, hk, rfl, rfl, rfl, by rw [List.size_toArray, ln]; exact hl, by simpa using rv⟩) (fun b u z => nomatch (show (none : Option HO) = some u from z)) (fun b z => absurd rfl z) (fun z => absurd rfl z)
  | none =>
    refine core (upd (fun _ => none) a (.frz { cls := .type "list", data := .seq vs.toArray } (.lst (ns.map V.int)))) (fun b => ?_) (.inl (.inr ⟨{ cls := .type "list", data := .seq vs.toArray }, upd_same⟩)) (fun b u z => ?_) (fun b z => ?_) (fun _ => hk)
    · by_cases e : b = a
      · rw [e]; exact .inr ⟨_, _, upd_same⟩
      · exact .inl (upd_ne e)
    · by_cases e : b = a
      · subst e
        rw [upd_same] at z
        cases z
        exact ⟨ha, by rw [List.length_map]; exact hl, vs, _, rv, ha⟩
      · rw [upd_ne e] at z
        cases z
    · by_cases e : b = a
      · exact e
      · exact absurd (upd_ne e) z
end
/-! what k_head leaves, from the law's promise -/
theorem walk_top {l : PySem.W.OpenLaw} {n : Nat} {q : Program} {loose : List Str} {XP : (Str → Option Value) → Heap → Prop} {YP : World → Heap → Prop} {d : DefRec} {K : Params → PySem.W.Frag} {sp : World → Sp} {x : Str}
    (hn : l.most = some n) (hn2 : n ≤ sizeLine) (hdf : d.params.defaults = []) (hY : ∀ (w : World) (h : Heap), YP w h → (K w.params).In h)
    (F : ∀ (w : World) (mg : Str → Option Value) (fa : Addr) (h : Heap), (K w.params).In h → h.Ns mainGlobals mg → mg d.name = some (.ref fa) →
      ∃ fd : FuncData, (∀ (s : Shared) (u : Value), BindsTo s fd ⟨[u], []⟩ [(x, u)]) ∧ ∀ base : Heap, (K w.params).In base → base.Ns mainGlobals mg → AtTop l.prog w (K w.params) mg base fa fd x (sp w))
    (hsp : ∀ (w : World) (H : Hp) (a : Addr) (ns : List Int), ns.length ≤ n → Only H → SqL (K w.params) H a (ns.map V.int) → sp w [.ref a] H (fun v _ => v = .bl true) E0) :
    PySem.W.WalkO q loose XP YP l.row.toRowW d [] (fun f vs => PySem.call f vs) := by
  refine Att.attach_call hn hdf (fun w s0 s1 mg mb fa o pm cd doc a vs ns G Y ho hd hcd hmg hobj hin hlen hg => ?_)
  have KX := hY w _ Y
  obtain ⟨fd, hb, hF⟩ := F w mg fa _ KX G.T.g hmg
  exact law_at KX G.T.g G.T.b G.T.builtins G.T.nolimit hg hobj hin (Nat.le_trans hlen hn2) hF hb (fun H hO hS => hsp w H a ns hlen hO hS)
end Rw

namespace Rw
open PySem PySem.Spec PyProof.Rows L2
/-! ### the text -/
def topS (i : Nat) : Stmt := PySem.Challenge.pw_ropewarren_k00_first_steps.main.body.getD i (.Pass ⟨0, 0, 0, 0⟩)
/-! ### what stands at the top: a def that keeps a promise, built-ins that are still theirs -/
def Can (P : Program) (w : World) (K : PySem.W.Frag) (mg : Str → Option Value) (base : Heap) (x : Str) (ps : List Str) (k : Nat) (sp : Sp) : Prop :=
  ∃ f fd, FnOk P w K mg base CX0 k f fd ps sp ∧ mg x = some (.ref f) ∧ PySem.W.keepIn K (.ref f) = true ∧ Binds K fd ps []
def Has (K : PySem.W.Frag) (mg : Str → Option Value) (x : Str) (st : Stmt) : Prop := ∃ f fd, Fun K x x st f fd ∧ mg x = some (.ref f)
structure Blt (mg : Str → Option Value) : Prop where
  isi : mg "isinstance" = none
  int_ : mg "int" = none
  bool_ : mg "bool" = none
  tuple_ : mg "tuple" = none
  list_ : mg "list" = none
  len_ : mg "len" = none
  abs_ : mg "abs" = none
  sorted_ : mg "sorted" = none
  set_ : mg "set" = none
  range_ : mg "range" = none
  min_ : mg "min" = none
  str_ : mg "str" = none
  reversed_ : mg "reversed" = none
  repr_ : mg "repr" = none
  enum_ : mg "enumerate" = none
  max_ : mg "max" = none
  sum_ : mg "sum" = none
  all_ : mg "all" = none
  any_ : mg "any" = none
theorem pe_can {X : Cx} {x : Str} {ps : List Str} {k : Nat} {sp : Sp} {e : Expr} {es : List Expr} {t : TA} {p pos : Pos} (C : Can X.prog X.w X.K X.mg X.base x ps k sp) (hr : Room k X.A) (hg : Gl X x)
    (ha : PA X (e :: es) t) (hdb : (x == ("__debug__" : Str)) = false := by decide) (he : starEach (e :: es) X.env = (false, eval e X.env) :: starEach es X.env := by rfl) (hpl : (backTo pos (starEach es X.env)).any (·.1) = false := by rfl) :
    PE X (.Call (.Name x p) (e :: es) [] pos) (tCall sp [] E0 t) := by
  obtain ⟨f, fd, F, gm, kp, b⟩ := C
  exact pe_call F hr hg gm kp b .nil pass0 ha hdb he hpl
/-! ### isinstance of data -/
def tn : PyData → String
  | .none => "NoneType"
  | .bool _ => "bool"
  | .int _ => "int"
  | .str _ => "str"
  | .list _ => "list"
  | .tuple _ => "tuple"
  | .dict _ => "dict"
theorem Dt.ty {K : PySem.W.Frag} {av : List Addr} {H : Hp} {v : V} {d : PyData} (x : Dt av H v d) : TyX K H v (.type (tn d)) := by
  cases x with
  | non => exact .base .non
  | bl b => exact .base (.bl b)
  | int i => exact .base (.int i)
  | str y => exact .base (.str y)
  | lst _ e _ => exact .base (.lst e)
  | tup _ e _ => exact .base (.tup e)
  | dct _ e => exact .base (.dK e)
def aInt : PyData → Bool
  | .int _ => true
  | .bool _ => true
  | _ => false
def aBool : PyData → Bool
  | .bool _ => true
  | _ => false
def aTup : PyData → Bool
  | .tuple _ => true
  | _ => false
theorem kit_int (d : PyData) : kitB (tn d) "int" = some (aInt d) := by
  cases d <;> first | exact (show kitB "NoneType" "int" = some false by decide +kernel) | exact (show kitB "bool" "int" = some true by decide +kernel) | exact (show kitB "int" "int" = some true by decide +kernel) | exact (show kitB "str" "int" = some false by decide +kernel) | exact (show kitB "list" "int" = some false by decide +kernel) | exact (show kitB "tuple" "int" = some false by decide +kernel) | exact (show kitB "dict" "int" = some false by decide +kernel)
theorem kit_bool (d : PyData) : kitB (tn d) "bool" = some (aBool d) := by
  cases d <;> first | exact (show kitB "NoneType" "bool" = some false by decide +kernel) | exact (show kitB "bool" "bool" = some true by decide +kernel) | exact (show kitB "int" "bool" = some false by decide +kernel) | exact (show kitB "str" "bool" = some false by decide +kernel) | exact (show kitB "list" "bool" = some false by decide +kernel) | exact (show kitB "tuple" "bool" = some false by decide +kernel) | exact (show kitB "dict" "bool" = some false by decide +kernel)
theorem kit_tup (d : PyData) : kitB (tn d) "tuple" = some (aTup d) := by
  cases d <;> first | exact (show kitB "NoneType" "tuple" = some false by decide +kernel) | exact (show kitB "bool" "tuple" = some false by decide +kernel) | exact (show kitB "int" "tuple" = some false by decide +kernel) | exact (show kitB "str" "tuple" = some false by decide +kernel) | exact (show kitB "list" "tuple" = some false by decide +kernel) | exact (show kitB "tuple" "tuple" = some true by decide +kernel) | exact (show kitB "dict" "tuple" = some false by decide +kernel)
def isF : PyData → Bool := fun _ => false
def rIs (T : String) (f : PyData → Bool) : List V → Hp → VK → Prop := fun xs H Q => ∃ v d av, xs = [v, .ty T] ∧ Dt av H v d ∧ Q (.bl (f d)) H
theorem call_isD {X : Cx} {T : String} {f : PyData → Bool} (hf : ∀ d, kitB (tn d) T = some (f d)) : CallR X (.builtin "isinstance") (rIs T f) := by
  intro pins s σ H xs us Q I r h
  obtain ⟨v, d, av, e, hd, q⟩ := h
  exact call_isi pins s σ H xs us Q I r ⟨v, .ty T, .type (tn d), .type T, f d, e, .ty T, hd.ty, kit_ty (hf d), q⟩
end Rw

namespace Rw
open PySem PySem.Spec PyProof.Rows L2
/-! ### enumerate(t) of a tuple -/
theorem enumNew {v : Value} {o : Obj} {G : Heap → Prop} (B : Begins v o G) : Meets (Builtin.«enumerate.__new__» ⟨[.type "enumerate", v], []⟩) (fun _ R s => G s.heap ∧ R (.ok (.ret (.ref (s.heap.push o).objs.size)))
    { s with heap := (s.heap.push o).push { cls := .type "enumerate", data := .fields #[.none, .bool false, .ref s.heap.objs.size, rawInt 0, .none, .none] } }) :=
  .of_wp fun prog w A R s h => by
    obtain ⟨hp, g, d, tk, os⟩ := s
    obtain ⟨gh, rest⟩ := h
    have sub0 := sub_enumerate
    have it1 : ∀ {A' : Around} {E : Value → Shared → Prop} {Q : Value → Shared → Prop}, Q (.ref hp.objs.size) ⟨hp.push o, g, d, tk, os⟩ → wpAny (model prog w) A' (pyIter v) Q E ⟨hp, g, d, tk, os⟩ := fun q => B.iter prog w _ _ ⟨hp, g, d, tk, os⟩ _ gh q
    wp_walk using it1
    refine wpAny_stack_any (fun z => wpAny_pure ?_)
    split
    · rename_i cc _ _ _ _ _
      cases (cc == Value.type "enumerate") <;> (wp_walk using it1; exact ⟨_, rfl, rest⟩)
    · wp_walk using it1
      exact ⟨_, rfl, rest⟩
theorem enumCall {prog : Program} {w : World} {A : Around} {E : Value → Shared → Prop} {s : Shared} {v : Value} {o : Obj} {G : Heap → Prop} {Q : Value → Shared → Prop} (B : Begins v o G) (hg : G s.heap)
    (h : ∀ h', IsEnum h' (s.heap.objs.size + 1) s.heap.objs.size 0 .none → h'.get? s.heap.objs.size = some o → h'.objs.size = s.heap.objs.size + 2 → (∀ b o, s.heap.get? b = some o → h'.get? b = some o) → Q (.ref (s.heap.objs.size + 1)) { s with heap := h' }) :
    wpAny (model prog w) A (call (.type "enumerate") [v]) Q E s := by
  refine callType_new F.called_enumerate (by decide) (F.typeCall_enumerate_1 _) (F.newCall_enumerate_1 _) (fun obj => F.args_object_init_2 obj _) F.entry_enumerate_new (enumNew B) ⟨hg, ?_⟩
  have z : (s.heap.push o).objs.size = s.heap.objs.size + 1 := Heap.size_push ..
  show _ ∧ _
  rw [z]
  have e : IsEnum ((s.heap.push o).push { cls := .type "enumerate", data := .fields #[.none, .bool false, .ref s.heap.objs.size, rawInt 0, .none, .none] }) (s.heap.objs.size + 1) s.heap.objs.size 0 .none := by
    have y := Heap.get?_push_size (s.heap.push o) (o := { cls := .type "enumerate", data := .fields #[.none, .bool false, .ref s.heap.objs.size, rawInt 0, .none, .none] }) rfl
    rw [z] at y
    exact y
  exact ⟨⟨_, e, rfl⟩, h _ e (Heap.get?_push_of_some _ (Heap.get?_push_size _ B.free)) (by rw [Heap.size_push, z]) (fun b o x => Heap.get?_push_of_some _ (Heap.get?_push_of_some _ x))⟩
/-- the tuple at a, each item in a new pair -/
def IteT (K : PySem.W.Frag) (a : Addr) : It :=
  ⟨fun i H => ∃ (xs : List V) (x : V), SqT K H a xs ∧ xs[i]? = some x, fun i H v H' => ∃ T x, v = .ref T ∧ H T = none ∧ H' = upd H T (.tup [.int (i : Nat), x]) ∧ ∀ xs, SqT K H a xs → xs[i]? = some x, fun i H => ∃ xs : List V, SqT K H a xs ∧ xs.length ≤ i⟩
theorem turn_enumT {P : Program} {w : World} {K : PySem.W.Frag} {elts : List Expr} {kk : Nat} {tpos : Pos} (a e it : Addr) :
    Turn P w K (.Tuple elts kk tpos) (IteT K a) [e, it] e (fun i h => (∃ old, IsEnum h e it ((i : Nat) : Int) old) ∧ h.IsTupleIter it a i ∧ e ≠ it ∧ a ≠ it ∧ a ≠ e) where
  mem := by simp
  obj := fun i h st b hb => by
    obtain ⟨⟨old, he⟩, ⟨o, ho, oc, od⟩, _⟩ := st
    rcases (show b = e ∨ b = it by simpa using hb) with rfl | rfl
    · exact ⟨_, he, fun v q => nomatch q⟩
    · exact ⟨o, ho, fun v q => by rw [od] at q; cases q⟩
  keep := fun i h h' st k => let ⟨⟨old, he⟩, hi, r⟩ := st; ⟨⟨old, k e (by simp) _ he⟩, hi.at fun o q => k it (by simp) o q, r⟩
  item := by
    intro X hP hw hK hc i pins s σ H E I hf st hg
    subst hP hw hK
    obtain ⟨⟨old, he⟩, hit, nei, nai, nae⟩ := st
    obtain ⟨xs, x, sq, gx⟩ := hg
    obtain ⟨its, rv, tp, _⟩ := I.tuple sq
    obtain ⟨u, gu, ru⟩ := rv.get gx
    have eb : e < s.heap.objs.size := Heap.lt_size he
    have ib : it < s.heap.objs.size := by obtain ⟨_, q, _⟩ := hit; exact Heap.lt_size q
    have ub : i < its.toArray.size := by simpa using (List.getElem?_eq_some_iff.mp gu).1
    refine wpAny_pyNext_enum_itemD (Draws.tuple (A := X.A.in1) (I.ok.hd hc) it a nai its.toArray) he ⟨hit, tp⟩ ub nei (by simp [nei, nae.symm]) (fun y h' tk gy ho st' hT hsz hk => ?_)
    have ey : y = u := by
      have z : its[i]? = some y := by simpa using gy
      rw [gu] at z; cases z; rfl
    subst ey
    refine ⟨_, rfl, wpAny_letOwnedTupleGo_enum (s := { s with heap := h', toks := tk + 1 }) ho fun h2 he2 sb => ?_⟩
    have hT2 : h2.get? s.heap.objs.size = some { cls := .type "tuple", data := .seq #[.int i tk, y] } := (sb.2 _ (Nat.ne_of_gt eb)).trans hT
    have ob : ObjOk X.prog X.w (upd H s.heap.objs.size (.tup [.int (i : Nat), x])) h2 s.heap.objs.size (.tup [.int (i : Nat), x]) := ⟨by show 2 ≤ sizeLine; decide, [.int i tk, y], .cons ⟨_, rfl⟩ (.cons ru .nil), ⟨_, hT2, rfl, _, rfl⟩⟩
    have J : Inv X pins σ (upd H s.heap.objs.size (.tup [.int (i : Nat), x])) { s with heap := h2, toks := tk + 1 } :=
      I.turnedNew (ch := [e, it]) (fun b q hb z => (sb.2 b (fun w => hb (by simp [w]))).trans (hk b q (fun w => hb (by simp [w])) (fun w => hb (by simp [w])) z)) hf (Nat.le_refl _) ob
    refine ⟨.ref s.heap.objs.size, _, J, rfl, ⟨_, x, rfl, I.hok.fresh (Nat.le_refl _), rfl, fun ys hy => by rw [I.tuple_inj hy sq]; exact gx⟩, ⟨⟨y, ?_⟩, st'.1.at fun o q => (sb.2 it nei.symm).trans q, nei, nai, nae⟩, fun b hb => ?_⟩
    · rw [show ((i + 1 : Nat) : Int) = (i : Int) + 1 by omega]; exact he2
    · have b1 : b < s.heap.objs.size := by
        rcases (show b = e ∨ b = it by simpa using hb) with rfl | rfl
        · exact eb
        · exact ib
      rw [upd_ne (Nat.ne_of_lt b1)]
      exact (hf b hb).1
  done := by
    intro X hP hw hK hc i pins s σ H E I hf st hg
    subst hP hw hK
    obtain ⟨⟨old, he⟩, hit, nei, nai, nae⟩ := st
    obtain ⟨xs, sq, lx⟩ := hg
    obtain ⟨its, rv, tp, _⟩ := I.tuple sq
    obtain ⟨f0, f1, f2, f3, f4, f5⟩ := hf it (by simp)
    have ln := rv.length
    have D := Draws.tuple (prog := X.prog) (w := X.w) (A := X.A.in1) (I.ok.hd hc) it a nai its.toArray
    unfold pyNext
    refine wpAny_bind (wpAny_attempt (wpAny_callSpecial?_slot (name := Str.ofString "__next__") (s := s) (⟨_, he, rfl⟩ : s.TypeIs (.ref e) "enumerate") F.slot_enumerate_next (wpAny_call_entry F.slot_enumerate_next ⟨_, he, rfl⟩ F.entry_enumerate_next ?_ (F.args_enumerate_next_1 _))))
    show wpAny _ _ (field (.ref e) 2 >>= _) _ _ _
    refine wpAny_bind (wpAny_field he rfl (x := .ref it) rfl (wpAny_bind (wpAny_nextOf_tuple_end (I.ok.hd hc) hit tp (by simp; omega) fun h' x eb ⟨o, ho, oc⟩ => ?_)))
    refine wpAny_bind (wpAny_isInstance (T := "StopIteration") (b := true) ⟨o, ho, oc⟩ isSubtype_stop (wpAny_pure ⟨rfl, ?_⟩))
    exact I.turned (t' := s.toks) (fun b o hb q => eb b o hb q) f0 f1 f3 f4 f5
  self := fun A i s Q E st h => let ⟨⟨_, he⟩, _⟩ := st; wpAny_pyIter_enum he h
def iEnumT (K : PySem.W.Frag) (ta : TA) : TI := fun σ H R => ta σ H fun vs H1 => ∃ a xs, vs = [.ref a] ∧ SqT K H1 a xs ∧ R (IteT K a) H1
theorem pi_enumT {X : Cx} {e : Expr} {ta : TA} {p pos tpos : Pos} {elts : List Expr} {kk : Nat} (hg : Gl X "enumerate") (hm : X.mg "enumerate" = none) (ha : PA X [e] ta) (hs : starEach [e] X.env = [(false, eval e X.env)] := by rfl) :
    PI X (.Tuple elts kk tpos) (.Call (.Name "enumerate" p) [e] [] pos) (iEnumT X.K ta) := by
  refine ⟨fun pins s σ H R I h => Call_ (ld_blt I hg hm boot_enumerate (PyProof.Rows.callWith_type1 (thn (ha.run pos pins s σ H _ I h) fun us s1 ⟨vs, H1, I1, r1, q1⟩ => ?_) hs rfl))⟩
  obtain ⟨a, xs, rfl, sq, q⟩ := q1
  cases r1 with
  | cons r rr =>
    cases rr
    cases r
    obtain ⟨its, rv, tp, _⟩ := I1.tuple sq
    have al : a < s1.heap.objs.size := by obtain ⟨_, z, _⟩ := (id tp : Heap.IsTuple _ _ _); exact Heap.lt_size z
    refine enumCall (begins_tuple a its.toArray) tp (fun h' he hit hsz hk => wpAny_pyIter_enum he ?_)
    refine ⟨s1.heap.objs.size + 1, [s1.heap.objs.size + 1, s1.heap.objs.size], _, _, H1, rfl, I1.kept (t' := s1.toks) hk, turn_enumT a (s1.heap.objs.size + 1) s1.heap.objs.size, ⟨⟨.none, he⟩, ⟨_, hit, rfl, rfl⟩, Nat.succ_ne_self _, Nat.ne_of_lt al, Nat.ne_of_lt (Nat.lt_succ_of_lt al)⟩, fun b hb => ?_, q⟩
    have le : s1.heap.objs.size ≤ b := by
      rcases (show b = s1.heap.objs.size + 1 ∨ b = s1.heap.objs.size by simpa using hb) with z | z <;> rw [z]
      · exact Nat.le_add_right _ _
      · exact Nat.le_refl _
    exact I1.fpOk le (I1.hok.fresh le)
end Rw

namespace Rw
open PySem PySem.Spec PyProof.Rows L2
/-! ### min of a list of tuples of ints -/
def tupI (ns : List Int) : PyData := .tuple (ns.map .int)
def minL (ns : List Int) (nss : List (List Int)) : List Int := nss.foldl (fun a y => if PySem.W.listLt y a = true then y else a) ns
theorem tupI_toD (ns : List Int) : tupI ns = PySem.W.Datum.toD (⟨ns⟩ : PySem.W.Tup Int) := by
  show PyData.tuple (ns.map .int) = PyData.tuple (ns.map PySem.W.Datum.toD)
  rfl
theorem minL_fold (ns : List Int) : ∀ nss : List (List Int), (nss.map fun x => (⟨x⟩ : PySem.W.Tup Int)).foldl (fun a y => if PySem.W.listLt y.items a.items = true then y else a) ⟨ns⟩ = (⟨minL ns nss⟩ : PySem.W.Tup Int) := by
  intro nss
  unfold minL
  induction nss generalizing ns with
  | nil => rfl
  | cons y r ih =>
    rw [List.map_cons, List.foldl_cons, List.foldl_cons]
    by_cases h : PySem.W.listLt y ns = true
    · rw [if_pos h, if_pos h]; exact ih y
    · rw [if_neg h, if_neg h]; exact ih ns
theorem minD_minL (ns : List Int) (nss : List (List Int)) : PySem.W.minD (tupI ns) (nss.map tupI) = tupI (minL ns nss) := by
  have e : nss.map tupI = (nss.map fun x => (⟨x⟩ : PySem.W.Tup Int)).map PySem.W.Datum.toD := by
    rw [List.map_map]; exact List.map_congr_left fun x _ => tupI_toD x
  rw [tupI_toD, e, PySem.W.minD_map, tupI_toD]
  exact congrArg PySem.W.Datum.toD (minL_fold ns nss)
theorem minL_mem (ns : List Int) : ∀ nss : List (List Int), minL ns nss ∈ ns :: nss := by
  intro nss
  unfold minL
  induction nss generalizing ns with
  | nil => exact List.mem_cons_self
  | cons y r ih =>
    rw [List.foldl_cons]
    by_cases h : PySem.W.listLt y ns = true
    · rw [if_pos h]; exact List.mem_cons_of_mem _ (ih y)
    · rw [if_neg h]
      rcases List.mem_cons.mp (ih ns) with e | e
      · rw [e]; exact List.mem_cons_self
      · exact List.mem_cons_of_mem _ (List.mem_cons_of_mem _ e)
theorem lt_head {a b : Int} {x y : List Int} : (PySem.W.listLt (a :: x) (b :: y) = true → a ≤ b) ∧ (¬ PySem.W.listLt (a :: x) (b :: y) = true → b ≤ a) := by
  have u : PySem.W.listLt (a :: x) (b :: y) = if a = b then PySem.W.listLt x y else PySem.W.DatumOrd.lt a b := rfl
  have v : PySem.W.DatumOrd.lt a b = decide (a < b) := rfl
  rw [u, v]
  by_cases h : a = b
  · rw [if_pos h]; exact ⟨fun _ => by omega, fun _ => by omega⟩
  · rw [if_neg h]; exact ⟨fun z => by have := of_decide_eq_true z; omega, fun z => by have := of_decide_eq_false (Bool.eq_false_iff.mpr z); omega⟩
theorem minL_head : ∀ (nss : List (List Int)) (ns : List Int), (∀ y ∈ ns :: nss, y ≠ []) → ∀ y ∈ ns :: nss, (minL ns nss).headD 0 ≤ y.headD 0 := by
  intro nss
  unfold minL
  induction nss with
  | nil => intro ns _ y hy; rw [List.mem_singleton.mp hy]; exact Int.le_refl _
  | cons z r ih =>
    intro ns hn y hy
    rw [List.foldl_cons]
    have n1 := hn ns List.mem_cons_self
    have n2 := hn z (List.mem_cons_of_mem _ List.mem_cons_self)
    have hr : ∀ q ∈ r, q ≠ [] := fun q m => hn q (List.mem_cons_of_mem _ (List.mem_cons_of_mem _ m))
    obtain ⟨a, x, rfl⟩ := List.exists_cons_of_ne_nil n1
    obtain ⟨b, w, rfl⟩ := List.exists_cons_of_ne_nil n2
    by_cases h : PySem.W.listLt (b :: w) (a :: x) = true
    · rw [if_pos h]
      have k := ih (b :: w) (fun q m => (List.mem_cons.mp m).elim (fun e => by rw [e]; exact n2) (hr q))
      rcases List.mem_cons.mp hy with rfl | hy
      · exact Int.le_trans (k _ List.mem_cons_self) (lt_head.1 h)
      · exact k y hy
    · rw [if_neg h]
      have k := ih (a :: x) (fun q m => (List.mem_cons.mp m).elim (fun e => by rw [e]; exact n1) (hr q))
      rcases List.mem_cons.mp hy with rfl | hy
      · exact k _ List.mem_cons_self
      · rcases List.mem_cons.mp hy with rfl | hy
        · exact Int.le_trans (k _ List.mem_cons_self) (lt_head.2 h)
        · exact k y (List.mem_cons_of_mem _ hy)
theorem tupI_lay : ∀ ns : List Int, PyData.canLayAll0 (ns.map .int) = true
  | [] => by simp [PyData.canLayAll0]
  | n :: ns => by rw [List.map_cons]; simp only [PyData.canLayAll0, PyData.canLay0, tupI_lay ns, Bool.and_true]
theorem tupI_depths : ∀ ns : List Int, PyData.depthAll (ns.map .int) = 0
  | [] => by simp [PyData.depthAll]
  | n :: ns => by rw [List.map_cons]; simp [PyData.depthAll, PyData.depth, tupI_depths ns]
theorem tupI_depth : ∀ nss : List (List Int), PyData.depthAll (nss.map tupI) ≤ 1
  | [] => by simp [PyData.depthAll]
  | n :: ns => by
    have := tupI_depth ns
    rw [List.map_cons]
    show max (PyData.depth (.tuple (n.map .int))) (PyData.depthAll (ns.map tupI)) ≤ 1
    have e : PyData.depth (.tuple (n.map .int)) ≤ 1 := by simp [PyData.depth, tupI_depths n]
    omega
theorem tupI_alike (nss : List (List Int)) : PySem.W.AlikeAll (nss.map tupI) := by
  refine ⟨fun x hx y hy => ?_, fun x hx e => ?_⟩
  · obtain ⟨a, _, rfl⟩ := List.mem_map.mp hx
    obtain ⟨b, _, rfl⟩ := List.mem_map.mp hy
    rw [tupI_toD, tupI_toD]
    exact PySem.W.DatumOrd.alike _ _
  · obtain ⟨a, _, rfl⟩ := List.mem_map.mp hx
    cases e
def rMinT (K : PySem.W.Frag) : List V → Hp → VK → Prop := fun vs H Q => ∃ (a : Addr) (xs : List V) (ns : List Int) (nss : List (List Int)), vs = [.ref a] ∧ SqL K H a xs ∧ DpAll K H xs ((ns :: nss).map tupI) ∧
  ∀ (i : Nat) (v : V), xs[i]? = some v → (ns :: nss)[i]? = some (minL ns nss) → Q v H
theorem tupI_inj {a b : List Int} (h : tupI a = tupI b) : a = b := by
  have h2 : a.map PyData.int = b.map PyData.int := PyData.tuple.inj h
  have f : ∀ l : List Int, (l.map PyData.int).map (fun d => match d with | .int i => i | _ => 0) = l := fun l => by
    rw [List.map_map]; exact (List.map_congr_left fun _ _ => rfl).trans (List.map_id l)
  rw [← f a, ← f b, h2]
theorem reads_all_at {h : Heap} : ∀ {vs : List Value} {xs : List PyData} {as : List Addr}, ReadsAll h vs xs as → ∀ (i : Nat) (v : Value), vs[i]? = some v → ∃ d bs, xs[i]? = some d ∧ Reads h v d bs
  | _, _, _, .nil, i, v, e => by simp at e
  | _, _, _, .cons r rs, 0, v, e => by simp at e; subst e; exact ⟨_, _, rfl, r⟩
  | _, _, _, .cons r rs, i + 1, v, e => by
    obtain ⟨d, bs, h1, h2⟩ := reads_all_at rs i v (by simpa using e)
    exact ⟨d, bs, by simpa using h1, h2⟩
theorem vals_at : ∀ {xs : List V} {us : List Value}, Vals xs us → ∀ (i : Nat) (u : Value), us[i]? = some u → ∃ x, xs[i]? = some x ∧ RelV x u
  | _, _, .nil, i, u, e => by simp at e
  | _, _, .cons r rs, 0, u, e => by simp at e; subst e; exact ⟨_, rfl, r⟩
  | _, _, .cons r rs, i + 1, u, e => by
    obtain ⟨x, h1, h2⟩ := vals_at rs i u (by simpa using e)
    exact ⟨x, by simpa using h1, h2⟩
theorem cr_minT {X : Cx} (hc : X.calm = true) (hu : X.A.units + 10 < cLine) : CallR X (.builtin "min") (rMinT X.K) := by
  intro pins s σ H vs us Q I r h
  obtain ⟨a, xs, ns, nss, rfl, sq, dp, q⟩ := h
  obtain ⟨its, rv, hl, _⟩ := I.list sq
  rw [Vals.ref1 r]
  obtain ⟨as, rd⟩ := Dp.readsAll I _ _ its dp rv
  have dd := tupI_depth (ns :: nss)
  have al := tupI_alike (ns :: nss)
  rw [List.map_cons] at rd dd al
  refine PySem.W.min_list_data (I.ok.hd hc) hl.isList (x := tupI ns) (xs := nss.map tupI) (as := as) rd al (by omega) (fun i v h' tk bs gi rv' kp => ?_)
  rw [minD_minL] at rv'
  have gi' : its[i]? = some v := by simpa using gi
  obtain ⟨x, gx, rx⟩ := vals_at rv i v gi'
  obtain ⟨d, cs, gd, rdd⟩ := reads_all_at rd i v gi'
  have rdd' : Reads h' v d cs := PySem.W.reads_keeps kp rdd
  obtain ⟨m, gm, em⟩ : ∃ m, (ns :: nss)[i]? = some m ∧ d = tupI m := by
    have z : ((ns :: nss).map tupI)[i]? = some d := by rw [List.map_cons]; exact gd
    rw [List.getElem?_map] at z
    obtain ⟨m, z1, z2⟩ := Option.map_eq_some_iff.mp z
    exact ⟨m, z1, z2.symm⟩
  have e : tupI (minL ns nss) = d := (rv'.unique _ _ rdd').1
  rw [em] at e
  have e2 := tupI_inj e
  exact ⟨x, H, I.kept (t' := tk) kp, rx, q i x gx (by rw [gm, e2])⟩
end Rw

namespace Rw
open PySem PySem.Spec PyProof.Rows L2
/-! ### places of a house, by data -/
def lenOf : PyData → Int
  | .tuple (_ :: _ :: .int l :: _) => l
  | _ => 0
def PipesOk (ps : List PyData) : Prop := ∀ p ∈ ps, ∃ a b l r, p = .tuple (a :: b :: .int l :: r)
def houseD (n : Int) (ps : List PyData) : PyData := .tuple [.int n, .tuple ps]
end Rw

namespace Rw
open PySem PySem.Spec PyProof.Rows L2
theorem Keep.upd {av : List Addr} {H H1 : Hp} {p : Addr} {o : HO} (n : H p = none) (k : Keep av H H1) : Keep av H (upd H1 p o) := fun b z e nb => by
  rw [upd_ne (ne_of_none e n)]; exact k b z e nb
theorem Keep.set {av : List Addr} {H H1 : Hp} {p : Addr} {o : HO} (n : p ∈ av) (k : Keep av H H1) : Keep av H (L2.upd H1 p o) := k.trans (Keep.put n)
theorem Keep.same {H H1 : Hp} (k : Keep [] H H1) : Same H H1 := fun b o e => k b o e List.not_mem_nil
theorem Keep.of {av : List Addr} {H H1 : Hp} (k : Keep [] H H1) : Keep av H H1 := k.mono fun _ m => nomatch m
theorem cut_to (xs : List V) (k : Nat) : cutV xs none (some (k : Int)) = xs.take k := by
  unfold cutV
  rw [HT.sIx_none, HT.sIx_nat, List.drop_zero, Nat.sub_zero]
  by_cases h : k ≤ xs.length
  · rw [Nat.min_eq_left h]
  · rw [Nat.min_eq_right (by omega), List.take_of_length_le (Nat.le_refl _), List.take_of_length_le (by omega)]
theorem cut_from (xs : List V) (k : Nat) : cutV xs (some (k : Int)) none = xs.drop k := by
  unfold cutV
  rw [HT.sIx_none, HT.sIx_nat]
  by_cases h : k ≤ xs.length
  · rw [Nat.min_eq_left h, List.take_of_length_le (by rw [List.length_drop]; exact Nat.le_refl _)]
  · rw [Nat.min_eq_right (by omega), List.drop_of_length_le (Nat.le_refl _), List.drop_of_length_le (show xs.length ≤ k by omega), List.take_nil]
/-! ### the deck: its cells, its rests, its count (at most b) -/
structure Deck (H : Hp) (D C R : Addr) (b : Int) : Prop where
  ex : ∃ (ns rs : List Int) (c : Int), H D = some (.lst [.ref C, .ref R, .int c]) ∧ H C = some (.lst (ns.map V.int)) ∧ H R = some (.lst (rs.map V.int)) ∧
    rs.length = ns.length ∧ 0 < ns.length ∧ ns.length ≤ 100 ∧ (∀ n ∈ ns, 0 ≤ n) ∧ (∀ r ∈ rs, 0 ≤ r) ∧ 0 ≤ c ∧ c ≤ b
  cr : C ≠ R
  dc : D ≠ C
  dr : D ≠ R
theorem Deck.mono {H : Hp} {D C R : Addr} {b b' : Int} (x : Deck H D C R b) (h : b ≤ b') : Deck H D C R b' := by
  obtain ⟨⟨ns, rs, c, e1, e2, e3, e4, e5, e6, e7, e8, e9, e10⟩, n1, n2, n3⟩ := x
  exact ⟨⟨ns, rs, c, e1, e2, e3, e4, e5, e6, e7, e8, e9, by omega⟩, n1, n2, n3⟩
theorem Deck.keep {H H' : Hp} {D C R : Addr} {b : Int} (x : Deck H D C R b) (k : Keep [] H H') : Deck H' D C R b := by
  obtain ⟨⟨ns, rs, c, e1, e2, e3, r⟩, n1, n2, n3⟩ := x
  exact ⟨⟨ns, rs, c, k _ _ e1 List.not_mem_nil, k _ _ e2 List.not_mem_nil, k _ _ e3 List.not_mem_nil, r⟩, n1, n2, n3⟩
/-! a store elsewhere leaves the deck -/
theorem Deck.other {H : Hp} {D C R p : Addr} {b : Int} {o : HO} (x : Deck H D C R b) (h1 : p ≠ D) (h2 : p ≠ C) (h3 : p ≠ R) : Deck (upd H p o) D C R b := by
  obtain ⟨⟨ns, rs, c, e1, e2, e3, r⟩, n1, n2, n3⟩ := x
  exact ⟨⟨ns, rs, c, by rw [upd_ne h1.symm]; exact e1, by rw [upd_ne h2.symm]; exact e2, by rw [upd_ne h3.symm]; exact e3, r⟩, n1, n2, n3⟩
theorem Deck.ne {H : Hp} {D C R p : Addr} {b : Int} (x : Deck H D C R b) (n : H p = none) : p ≠ D ∧ p ≠ C ∧ p ≠ R := by
  obtain ⟨⟨ns, rs, c, e1, e2, e3, r⟩, _⟩ := x
  exact ⟨(ne_of_none e1 n).symm, (ne_of_none e2 n).symm, (ne_of_none e3 n).symm⟩
theorem Deck.new {H : Hp} {D C R p : Addr} {b : Int} {o : HO} (x : Deck H D C R b) (n : H p = none) : Deck (upd H p o) D C R b :=
  x.other (x.ne n).1 (x.ne n).2.1 (x.ne n).2.2
end Rw

namespace Rw
open PySem PySem.Spec PyProof.Rows L2
theorem ixN_at {n : Nat} {i : Int} (h0 : 0 ≤ i) (h : i < n) : ixN n i = some i.toNat := by
  unfold ixN
  rw [if_pos h0]
  first | rw [if_pos (show i.toNat < n by omega)] | (rw [if_pos (show i < n by omega)])
theorem set_map (rs : List Int) (j : Nat) (x : Int) : (rs.map V.int).set j (.int x) = (rs.set j x).map V.int := by rw [List.map_set]
end Rw

namespace Rw
open PySem PySem.Spec PyProof.Rows L2
theorem atI_of {α : Type} {xs : List α} {i : Int} {v : α} (h0 : 0 ≤ i) (h : xs[i.toNat]? = some v) : atI xs i = some v := by
  have hl := (List.getElem?_eq_some_iff.mp h).1
  unfold atI
  rw [ixN_at h0 (by omega)]
  exact h
theorem Deck.at {H : Hp} {D C R : Addr} {b : Int} (x : Deck H D C R b) : (∃ o, H D = some o) ∧ (∃ o, H C = some o) ∧ ∃ o, H R = some o := by
  obtain ⟨⟨ns, rs, c, e1, e2, e3, r⟩, _⟩ := x
  exact ⟨⟨_, e1⟩, ⟨_, e2⟩, ⟨_, e3⟩⟩
theorem Keep.free {H H' : Hp} {D C R p : Addr} {b : Int} (k : Keep [D, R] H H') (x : Deck H' D C R b) (n : H' p = none) : H p = none := by
  cases hq : H p with
  | none => rfl
  | some o =>
    have nd : p ∉ [D, R] := fun m => by
      obtain ⟨n1, n2, n3⟩ := x.ne n
      rcases List.mem_cons.mp m with m | m
      · exact n1 m
      · exact n3 (List.mem_singleton.mp m)
    rw [k p o hq nd] at n; cases n
theorem notDR {D R p : Addr} (h1 : p ≠ D) (h2 : p ≠ R) : p ∉ [D, R] := fun m => by
  rcases List.mem_cons.mp m with m | m
  · exact h1 m
  · exact h2 (List.mem_singleton.mp m)
end Rw

namespace Rw
open PySem PySem.Spec PyProof.Rows L2
/-! addresses that are tracked -/
def Tr (av : List Addr) (H : Hp) : Prop := ∀ a ∈ av, ∃ o, H a = some o
theorem Tr.not {av : List Addr} {H : Hp} {p : Addr} (t : Tr av H) (n : H p = none) : p ∉ av := fun m => by
  obtain ⟨o, e⟩ := t p m
  rw [n] at e; cases e
theorem Tr.upd {av : List Addr} {H : Hp} {p : Addr} {o : HO} (t : Tr av H) : Tr av (upd H p o) := fun a m => by
  by_cases e : a = p
  · subst e; exact ⟨o, upd_same⟩
  · obtain ⟨u, z⟩ := t a m
    exact ⟨u, by rw [upd_ne e]; exact z⟩
theorem Tr.cons {av : List Addr} {H : Hp} {p : Addr} {o : HO} (t : Tr av H) (e : H p = some o) : Tr (p :: av) H := fun a m => by
  rcases List.mem_cons.mp m with m | m
  · rw [m]; exact ⟨o, e⟩
  · exact t a m
theorem Tr.keep {av : List Addr} {H H' : Hp} {D C R : Addr} {b : Int} (t : Tr av H) (k : Keep [D, R] H H') (d : Deck H' D C R b) : Tr av H' := fun a m => by
  cases e : H' a with
  | some o => exact ⟨o, rfl⟩
  | none =>
    obtain ⟨o, z⟩ := t a m
    rw [k.free d e] at z; cases z
theorem ix_listK {X : Cx} {K : PySem.W.Frag} (h : X.K = K) : IxR X (rIxL K) := by subst h; exact ix_list
theorem pick4 (a b c d : Int) (n : Nat) (h : n < 4) : ∃ j, [V.int a, V.int b, V.int c, V.int d][n]? = some (.int j) ∧ (j = a ∨ j = b ∨ j = c ∨ j = d) := by
  match n, h with
  | 0, _ => exact ⟨a, rfl, .inl rfl⟩
  | 1, _ => exact ⟨b, rfl, .inr (.inl rfl)⟩
  | 2, _ => exact ⟨c, rfl, .inr (.inr (.inl rfl))⟩
  | 3, _ => exact ⟨d, rfl, .inr (.inr (.inr rfl))⟩
/-! ### a pipe, by data -/
def prD (p : Int × Int) : PyData := .tuple [.int p.1, .int p.2]
def pipeD (x y l : Int) (na fl : List (Int × Int)) : PyData := .tuple [.int x, .int y, .int l, .tuple (na.map prD), .tuple (fl.map prD)]
structure Fit (l : Int) (na fl : List (Int × Int)) : Prop where
  l1 : 1 ≤ l
  l2 : l ≤ 1000000000000
  nup : (na.map (·.1)).Pairwise (· < ·)
  nin : ∀ p ∈ na, 1 ≤ p.1 ∧ p.1 ≤ l - 1 ∧ 1 ≤ p.2 ∧ p.2 ≤ 1000000
  fup : (fl.map (·.1)).Pairwise (· < ·)
  fin : ∀ p ∈ fl, 0 ≤ p.1 ∧ p.1 ≤ l - 1 ∧ (p.2 = 1 ∨ p.2 = -1)
  nle : na.length ≤ 3
  fle : fl.length ≤ 4
end Rw

namespace Rw
/-! ### rooms joined by pipes: two ways to look, one word -/
abbrev Ed := Nat × Nat
/-! what any parting of the rooms that no pipe crosses says -/
def Con (n : Nat) (E : List Ed) : Prop := ∀ S : Nat → Bool, (∀ e ∈ E, S e.1 = S e.2) → ∀ a, a < n → S a = S 0
/-! groups -/
def grp (g : List Int) (a : Nat) : Int := g.getD a 0
def merge (k o : Int) (g : List Int) : List Int := g.map fun v => if v = o then k else v
def step (g : List Int) (e : Ed) : List Int := merge (grp g e.1) (grp g e.2) g
def joins : List Int → List Ed → Bool
  | _, [] => true
  | g, e :: E => if grp g e.1 = grp g e.2 then false else joins (step g e) E
def start (n : Nat) : List Int := (List.range n).map Int.ofNat
theorem merge_len (k o : Int) (g : List Int) : (merge k o g).length = g.length := List.length_map _
theorem merge_grp {g : List Int} {a : Nat} (h : a < g.length) (k o : Int) : grp (merge k o g) a = if grp g a = o then k else grp g a := by
  unfold grp merge
  rw [List.getD_eq_getElem?_getD, List.getElem?_map, List.getD_eq_getElem?_getD, List.getElem?_eq_getElem h]
  rfl
theorem merge_self (k : Int) (g : List Int) : merge k k g = g := by
  unfold merge
  conv => rhs; rw [← List.map_id g]
  apply List.map_congr_left
  intro v _
  by_cases h : v = k
  · rw [if_pos h, h]; rfl
  · rw [if_neg h]; rfl
/-! how many names of groups are left -/
def used (n : Nat) (g : List Int) : List Nat := (List.range n).filter fun v => decide ((v : Int) ∈ g)
theorem grp_mem {g : List Int} {a : Nat} (h : a < g.length) : grp g a ∈ g := by
  unfold grp
  rw [List.getD_eq_getElem?_getD, List.getElem?_eq_getElem h]
  exact List.getElem_mem h
theorem mem_grp {g : List Int} {v : Int} (h : v ∈ g) : ∃ a, a < g.length ∧ grp g a = v := by
  obtain ⟨a, ha, e⟩ := List.mem_iff_getElem.mp h
  refine ⟨a, ha, ?_⟩
  unfold grp
  rw [List.getD_eq_getElem?_getD, List.getElem?_eq_getElem ha, ← e]; rfl
theorem mem_merge {k o v : Int} {g : List Int} (hk : k ∈ g) (hko : k ≠ o) : v ∈ merge k o g ↔ v ∈ g ∧ v ≠ o := by
  unfold merge
  rw [List.mem_map]
  constructor
  · rintro ⟨u, hu, e⟩
    by_cases h : u = o
    · rw [if_pos h] at e; subst e; exact ⟨hk, hko⟩
    · rw [if_neg h] at e; subst e; exact ⟨hu, h⟩
  · rintro ⟨hv, ho⟩
    exact ⟨v, hv, if_neg ho⟩
theorem filter_drop {n : Nat} {p : Nat → Bool} {o : Nat} : ∀ l : List Nat, l.Nodup → o ∈ l → p o = true → (l.filter fun v => p v && decide (v ≠ o)).length + 1 = (l.filter p).length
  | [], _, h, _ => nomatch h
  | x :: l, nd, h, hp => by
    rw [List.nodup_cons] at nd
    by_cases e : x = o
    · subst e
      have z : (l.filter fun v => p v && decide (v ≠ x)) = l.filter p := by
        apply List.filter_congr
        intro v hv
        have : v ≠ x := fun q => nd.1 (q ▸ hv)
        rw [decide_eq_true this, Bool.and_true]
      rw [List.filter_cons, List.filter_cons, hp]
      simp only [ne_eq, not_true_eq_false, decide_false, Bool.and_false, Bool.false_eq_true, if_false, if_true]
      rw [List.length_cons]
      simp only [ne_eq] at z
      rw [z]
    · have h' : o ∈ l := (List.mem_cons.mp h).elim (fun q => absurd q.symm e) id
      have ih := filter_drop (n := n) l nd.2 h' hp
      rw [List.filter_cons, List.filter_cons, decide_eq_true e, Bool.and_true]
      by_cases px : p x = true
      · rw [if_pos px, if_pos px, List.length_cons, List.length_cons]; omega
      · rw [if_neg px, if_neg px]; exact ih
structure Gs (n : Nat) (g : List Int) : Prop where
  len : g.length = n
  rng : ∀ v ∈ g, 0 ≤ v ∧ v < n
theorem Gs.start (n : Nat) : Gs n (start n) := by
  refine ⟨by unfold Rw.start; rw [List.length_map, List.length_range], fun v hv => ?_⟩
  unfold Rw.start at hv
  obtain ⟨a, ha, rfl⟩ := List.mem_map.mp hv
  have := List.mem_range.mp ha
  exact ⟨Int.natCast_nonneg a, Int.ofNat_lt.mpr this⟩
theorem Gs.step {n : Nat} {g : List Int} {e : Ed} (h : Gs n g) (h1 : e.1 < n) (h2 : e.2 < n) : Gs n (step g e) := by
  refine ⟨by unfold Rw.step; rw [merge_len]; exact h.len, fun v hv => ?_⟩
  unfold Rw.step merge at hv
  obtain ⟨u, hu, rfl⟩ := List.mem_map.mp hv
  by_cases q : u = grp g e.2
  · rw [if_pos q]; exact h.rng _ (grp_mem (by rw [h.len]; exact h1))
  · rw [if_neg q]; exact h.rng u hu
theorem used_step {n : Nat} {g : List Int} {e : Ed} (h : Gs n g) (h1 : e.1 < n) (h2 : e.2 < n) (ne : grp g e.1 ≠ grp g e.2) : (used n (step g e)).length + 1 = (used n g).length := by
  have m1 : grp g e.1 ∈ g := grp_mem (by rw [h.len]; exact h1)
  have m2 : grp g e.2 ∈ g := grp_mem (by rw [h.len]; exact h2)
  have r2 := h.rng _ m2
  have eo : ((grp g e.2).toNat : Int) = grp g e.2 := by omega
  unfold used Rw.step
  have z : ((List.range n).filter fun (v : Nat) => decide ((v : Int) ∈ merge (grp g e.1) (grp g e.2) g)) = (List.range n).filter fun (v : Nat) => decide ((v : Int) ∈ g) && decide (v ≠ (grp g e.2).toNat) := by
    apply List.filter_congr
    intro v _
    rw [← Bool.decide_and]
    apply decide_eq_decide.mpr
    rw [mem_merge m1 ne]
    constructor
    · rintro ⟨a, b⟩; exact ⟨a, fun q => b (by rw [q]; exact eo)⟩
    · rintro ⟨a, b⟩; exact ⟨a, fun q => b (by omega)⟩
  rw [z]
  exact filter_drop (n := n) (List.range n) List.nodup_range (List.mem_range.mpr (by omega)) (decide_eq_true (by rw [eo]; exact m2))
theorem used_start (n : Nat) : (used n (start n)).length = n := by
  unfold used
  rw [List.filter_eq_self.mpr (fun v hv => decide_eq_true (by unfold Rw.start; exact List.mem_map.mpr ⟨v, hv, rfl⟩)), List.length_range]
/-! all pipes taken, whether or not they join anew -/
def run (g : List Int) (E : List Ed) : List Int := E.foldl step g
theorem run_gs {n : Nat} : ∀ (E : List Ed) (g : List Int), (∀ e ∈ E, e.1 < n ∧ e.2 < n) → Gs n g → Gs n (run g E)
  | [], g, _, h => h
  | e :: E, g, hE, h => run_gs E (step g e) (fun f m => hE f (List.mem_cons_of_mem _ m)) (h.step (hE e List.mem_cons_self).1 (hE e List.mem_cons_self).2)
theorem used_run {n : Nat} : ∀ (E : List Ed) (g : List Int), (∀ e ∈ E, e.1 < n ∧ e.2 < n) → Gs n g → (used n g).length ≤ (used n (run g E)).length + E.length ∧ (joins g E = true → (used n g).length = (used n (run g E)).length + E.length) ∧ (joins g E = false → (used n g).length < (used n (run g E)).length + E.length)
  | [], g, _, h => ⟨Nat.le_refl _, fun _ => rfl, fun q => nomatch q⟩
  | e :: E, g, hE, h => by
    have he := hE e List.mem_cons_self
    have ih := used_run E (step g e) (fun f m => hE f (List.mem_cons_of_mem _ m)) (h.step he.1 he.2)
    have er : run g (e :: E) = run (step g e) E := rfl
    have ej : joins g (e :: E) = if grp g e.1 = grp g e.2 then false else joins (step g e) E := rfl
    rw [er, ej, List.length_cons]
    by_cases q : grp g e.1 = grp g e.2
    · have es : step g e = g := by unfold Rw.step; rw [q]; exact merge_self _ _
      rw [es] at ih ⊢
      rw [if_pos q]
      exact ⟨by omega, fun z => absurd z (by decide), fun _ => by omega⟩
    · have u := used_step h he.1 he.2 q
      rw [if_neg q]
      refine ⟨by omega, fun z => ?_, fun z => ?_⟩
      · have := ih.2.1 z; omega
      · have := ih.2.2 z; omega
/-! rooms of one group stay of one group; a pipe's rooms are of one -/
theorem step_keep {g : List Int} {e : Ed} {a b : Nat} (ha : a < g.length) (hb : b < g.length) (h : grp g a = grp g b) : grp (step g e) a = grp (step g e) b := by
  unfold step
  rw [merge_grp ha, merge_grp hb, h]
theorem step_both {g : List Int} {e : Ed} (ha : e.1 < g.length) (hb : e.2 < g.length) : grp (step g e) e.1 = grp (step g e) e.2 := by
  unfold step
  rw [merge_grp ha, merge_grp hb, if_pos rfl]
  split <;> rfl
theorem run_keep {n : Nat} : ∀ (E : List Ed) (g : List Int), (∀ e ∈ E, e.1 < n ∧ e.2 < n) → Gs n g → ∀ a b, a < n → b < n → grp g a = grp g b → grp (run g E) a = grp (run g E) b
  | [], _, _, _, _, _, _, _, h => h
  | e :: E, g, hE, hg, a, b, ha, hb, h => by
    have he := hE e List.mem_cons_self
    exact run_keep E (step g e) (fun f m => hE f (List.mem_cons_of_mem _ m)) (hg.step he.1 he.2) a b ha hb (step_keep (by rw [hg.len]; exact ha) (by rw [hg.len]; exact hb) h)
theorem run_edges {n : Nat} : ∀ (E : List Ed) (g : List Int), (∀ e ∈ E, e.1 < n ∧ e.2 < n) → Gs n g → ∀ e ∈ E, grp (run g E) e.1 = grp (run g E) e.2
  | [], _, _, _, _, m => nomatch m
  | e :: E, g, hE, hg, f, m => by
    have he := hE e List.mem_cons_self
    have hg' := hg.step he.1 he.2
    have hE' : ∀ f ∈ E, f.1 < n ∧ f.2 < n := fun f m => hE f (List.mem_cons_of_mem _ m)
    rcases List.mem_cons.mp m with m | m
    · subst m
      exact run_keep E (step g f) hE' hg' f.1 f.2 he.1 he.2 (step_both (by rw [hg.len]; exact he.1) (by rw [hg.len]; exact he.2))
    · exact run_edges E (step g e) hE' hg' f m
/-! a parting that no pipe crosses holds groups together -/
theorem run_part {n : Nat} (S : Nat → Bool) : ∀ (E : List Ed) (g : List Int), (∀ e ∈ E, e.1 < n ∧ e.2 < n) → (∀ e ∈ E, S e.1 = S e.2) → Gs n g → (∀ a b, a < n → b < n → grp g a = grp g b → S a = S b) → ∀ a b, a < n → b < n → grp (run g E) a = grp (run g E) b → S a = S b
  | [], _, _, _, _, h, a, b, ha, hb, e => h a b ha hb e
  | e :: E, g, hE, hS, hg, h, a, b, ha, hb, q => by
    have he := hE e List.mem_cons_self
    have hs := hS e List.mem_cons_self
    refine run_part S E (step g e) (fun f m => hE f (List.mem_cons_of_mem _ m)) (fun f m => hS f (List.mem_cons_of_mem _ m)) (hg.step he.1 he.2) (fun c d hc hd z => ?_) a b ha hb q
    unfold step at z
    rw [merge_grp (by rw [hg.len]; exact hc), merge_grp (by rw [hg.len]; exact hd)] at z
    by_cases c1 : grp g c = grp g e.2
    · by_cases d1 : grp g d = grp g e.2
      · exact h c d hc hd (c1.trans d1.symm)
      · rw [if_pos c1, if_neg d1] at z
        rw [h c e.2 hc he.2 c1, ← hs, h d e.1 hd he.1 z.symm]
    · by_cases d1 : grp g d = grp g e.2
      · rw [if_neg c1, if_pos d1] at z
        rw [h d e.2 hd he.2 d1, ← hs, h c e.1 hc he.1 z]
      · rw [if_neg c1, if_neg d1] at z
        exact h c d hc hd z
theorem start_inj {n a b : Nat} (ha : a < n) (hb : b < n) (h : grp (start n) a = grp (start n) b) : a = b := by
  unfold grp start at h
  rw [List.getD_eq_getElem?_getD, List.getD_eq_getElem?_getD, List.getElem?_map, List.getElem?_map, List.getElem?_range ha, List.getElem?_range hb] at h
  exact Int.ofNat.inj h
theorem one_used {n : Nat} {g : List Int} (hg : Gs n g) (h : (used n g).length ≤ 1) {a b : Nat} (ha : a < n) (hb : b < n) : grp g a = grp g b := by
  have ma := grp_mem (g := g) (by rw [hg.len]; exact ha)
  have mb := grp_mem (g := g) (by rw [hg.len]; exact hb)
  have ra := hg.rng _ ma
  have rb := hg.rng _ mb
  have ua : (grp g a).toNat ∈ used n g := List.mem_filter.mpr ⟨List.mem_range.mpr (by omega), decide_eq_true (by rw [show (((grp g a).toNat : Nat) : Int) = grp g a by omega]; exact ma)⟩
  have ub : (grp g b).toNat ∈ used n g := List.mem_filter.mpr ⟨List.mem_range.mpr (by omega), decide_eq_true (by rw [show (((grp g b).toNat : Nat) : Int) = grp g b by omega]; exact mb)⟩
  match hu : used n g, h with
  | [], _ => rw [hu] at ua; exact absurd ua List.not_mem_nil
  | [x], _ =>
    rw [hu] at ua ub
    have e1 := List.mem_singleton.mp ua
    have e2 := List.mem_singleton.mp ub
    omega
theorem used_one {n : Nat} {g : List Int} (hg : Gs n g) (h : ∀ a, a < n → grp g a = grp g 0) : (used n g).length ≤ 1 := by
  have nd : (used n g).Nodup := List.nodup_range.filter _
  have all : ∀ v ∈ used n g, (v : Int) = grp g 0 := fun v hv => by
    obtain ⟨a, ha, e⟩ := mem_grp (of_decide_eq_true (List.mem_filter.mp hv).2)
    rw [← e]
    exact h a (by rw [← hg.len]; exact ha)
  match hu : used n g, nd, all with
  | [], _, _ => exact Nat.zero_le _
  | [x], _, _ => exact Nat.le_refl _
  | x :: y :: r, nd, all =>
    have e1 := all x List.mem_cons_self
    have e2 := all y (List.mem_cons_of_mem _ List.mem_cons_self)
    rw [List.nodup_cons] at nd
    exact absurd (show x ∈ y :: r by rw [show x = y by omega]; exact List.mem_cons_self) nd.1
theorem joins_iff {n : Nat} {E : List Ed} (hn : 0 < n) (hE : ∀ e ∈ E, e.1 < n ∧ e.2 < n) (hl : E.length + 1 = n) : joins (start n) E = true ↔ Con n E := by
  have hg := Gs.start n
  have hr := run_gs E (start n) hE hg
  have hu := used_run E (start n) hE hg
  rw [used_start] at hu
  constructor
  · intro hj S hS a ha
    have h1 := hu.2.1 hj
    have eq := one_used hr (by omega) ha hn
    exact run_part S E (start n) hE hS hg (fun c d hc hd z => by rw [start_inj hc hd z]) a 0 ha hn eq
  · intro hc
    cases hj : joins (start n) E with
    | true => rfl
    | false =>
      have h1 := hu.2.2 hj
      have all : ∀ a, a < n → grp (run (start n) E) a = grp (run (start n) E) 0 := fun a ha => by
        have z := hc (fun a => decide (grp (run (start n) E) a = grp (run (start n) E) 0)) (fun e m => by
          have := run_edges E (start n) hE hg e m
          show decide _ = decide _
          rw [this]) a ha
        have z0 : decide (grp (run (start n) E) 0 = grp (run (start n) E) 0) = true := decide_eq_true rfl
        exact of_decide_eq_true (z.trans z0)
      have := used_one hr all
      omega
end Rw

namespace Rw
structure Pi where
  x : Int
  y : Int
  l : Int
  na : List (Int × Int)
  fl : List (Int × Int)
deriving Inhabited
def edges (ps : List Pi) : List Ed := ps.map fun p => (p.x.toNat, p.y.toNat)
end Rw

namespace Rw
/-! ### distances of rooms in a house: a tree's metric, built pipe by pipe -/
def Dn (ps : List Pi) (d : Int → Int → Int) (s t : Int) (i : Nat) : Prop :=
  ∃ p, ps[i]? = some p ∧ ((p.x = t ∧ d s p.y + p.l = d s t) ∨ (p.y = t ∧ d s p.x + p.l = d s t))
structure FM (ps : List Pi) (g : Int → Int) (d : Int → Int → Int) : Prop where
  len : ∀ p ∈ ps, 1 ≤ p.l
  zero : ∀ s, d s s = 0
  sym : ∀ s t, d s t = d t s
  pos : ∀ s t, g s = g t → s ≠ t → 0 < d s t
  ends : ∀ p ∈ ps, g p.x = g p.y
  step : ∀ p ∈ ps, ∀ s, g s = g p.x → d s p.x = d s p.y + p.l ∨ d s p.y = d s p.x + p.l
  par : ∀ s t, g s = g t → s ≠ t → ∃ i, Dn ps d s t i
  uni : ∀ s t i j, g s = g t → Dn ps d s t i → Dn ps d s t j → i = j
  side : ∀ (i j : Nat) (p q : Pi), i ≠ j → ps[i]? = some p → ps[j]? = some q → g p.x = g q.x → d p.x q.x - d p.y q.x = d p.x q.y - d p.y q.y
theorem FM.nn {ps : List Pi} {g : Int → Int} {d : Int → Int → Int} (F : FM ps g d) {s t : Int} (h : g s = g t) : 0 ≤ d s t := by
  by_cases e : s = t
  · subst e; rw [F.zero]; exact Int.le_refl 0
  · have := F.pos s t h e; omega
def g1 (g : Int → Int) (p : Pi) (r : Int) : Int := if g r = g p.y then g p.x else g r
def d1 (g : Int → Int) (d : Int → Int → Int) (p : Pi) (s t : Int) : Int :=
  if g s = g t then d s t else if g s = g p.x ∧ g t = g p.y then d s p.x + p.l + d p.y t else if g s = g p.y ∧ g t = g p.x then d s p.y + p.l + d p.x t else 0
theorem FM.empty : FM [] id (fun _ _ => 0) where
  len := fun _ h => nomatch h
  zero := fun _ => rfl
  sym := fun _ _ => rfl
  pos := fun s t h n => absurd h n
  ends := fun _ h => nomatch h
  step := fun _ h => nomatch h
  par := fun s t h n => absurd h n
  uni := fun _ _ _ _ _ ⟨_, h, _⟩ => by simp at h
  side := fun _ _ _ _ _ h => by simp at h
section
variable {ps : List Pi} {g : Int → Int} {d : Int → Int → Int} {p : Pi}
theorem d1_same {s t : Int} (h : g s = g t) : d1 g d p s t = d s t := by unfold d1; rw [if_pos h]
theorem d1_ab (ne : g p.x ≠ g p.y) {s t : Int} (h1 : g s = g p.x) (h2 : g t = g p.y) : d1 g d p s t = d s p.x + p.l + d p.y t := by
  unfold d1; rw [if_neg (by rw [h1, h2]; exact ne), if_pos ⟨h1, h2⟩]
theorem d1_ba (ne : g p.x ≠ g p.y) {s t : Int} (h1 : g s = g p.y) (h2 : g t = g p.x) : d1 g d p s t = d s p.y + p.l + d p.x t := by
  unfold d1; rw [if_neg (by rw [h1, h2]; exact ne.symm), if_neg (by rw [h1]; exact fun z => ne z.1.symm), if_pos ⟨h1, h2⟩]
theorem g1_cases {s t : Int} (h : g1 g p s = g1 g p t) : g s = g t ∨ (g s = g p.x ∧ g t = g p.y) ∨ (g s = g p.y ∧ g t = g p.x) := by
  unfold g1 at h
  split at h <;> split at h <;> rename_i a b
  · exact .inl (a.trans b.symm)
  · exact .inr (.inr ⟨a, h.symm⟩)
  · exact .inr (.inl ⟨h, b⟩)
  · exact .inl h
theorem get_snoc {i : Nat} {q : Pi} (h : (ps ++ [p])[i]? = some q) : (ps[i]? = some q ∧ q ∈ ps) ∨ (i = ps.length ∧ q = p) := by
  by_cases hi : i < ps.length
  · rw [List.getElem?_append_left hi] at h
    exact .inl ⟨h, List.mem_of_getElem? h⟩
  · rw [List.getElem?_append_right (by omega)] at h
    right
    have : i - ps.length = 0 := by
      apply Classical.byContradiction
      intro z
      rw [List.getElem?_eq_none (by simp; omega)] at h
      cases h
    rw [this] at h
    simp at h
    exact ⟨by omega, h.symm⟩
theorem snoc_get {i : Nat} {q : Pi} (h : ps[i]? = some q) : (ps ++ [p])[i]? = some q := by
  rw [List.getElem?_append_left (List.getElem?_eq_some_iff.mp h).1]; exact h
theorem snoc_last : (ps ++ [p])[ps.length]? = some p := by
  rw [List.getElem?_append_right (Nat.le_refl _), Nat.sub_self]; rfl
/-! going down: old pipes of the same group, of the other one -/
theorem dn_same (F : FM ps g d) {s t : Int} (h : g s = g t) {i : Nat} {q : Pi} (e : ps[i]? = some q) (m : q ∈ ps) :
    ((q.x = t ∧ d1 g d p s q.y + q.l = d1 g d p s t) ∨ (q.y = t ∧ d1 g d p s q.x + q.l = d1 g d p s t)) ↔ ((q.x = t ∧ d s q.y + q.l = d s t) ∨ (q.y = t ∧ d s q.x + q.l = d s t)) := by
  have en := F.ends q m
  rw [d1_same h]
  constructor <;> rintro (⟨a, b⟩ | ⟨a, b⟩)
  · exact .inl ⟨a, by rw [d1_same (by rw [h, ← a, en])] at b; exact b⟩
  · exact .inr ⟨a, by rw [d1_same (by rw [h, ← a, en])] at b; exact b⟩
  · exact .inl ⟨a, by rw [d1_same (by rw [h, ← a, en])]; exact b⟩
  · exact .inr ⟨a, by rw [d1_same (by rw [h, ← a, en])]; exact b⟩
theorem dn_ab (F : FM ps g d) (ne : g p.x ≠ g p.y) {s t : Int} (h1 : g s = g p.x) (h2 : g t = g p.y) {q : Pi} (m : q ∈ ps) :
    ((q.x = t ∧ d1 g d p s q.y + q.l = d1 g d p s t) ∨ (q.y = t ∧ d1 g d p s q.x + q.l = d1 g d p s t)) ↔ ((q.x = t ∧ d p.y q.y + q.l = d p.y t) ∨ (q.y = t ∧ d p.y q.x + q.l = d p.y t)) := by
  have en := F.ends q m
  rw [d1_ab ne h1 h2]
  constructor <;> rintro (⟨a, b⟩ | ⟨a, b⟩)
  · exact .inl ⟨a, by rw [d1_ab ne h1 (by rw [← h2, ← a, en])] at b; omega⟩
  · exact .inr ⟨a, by rw [d1_ab ne h1 (by rw [← h2, ← a, en])] at b; omega⟩
  · exact .inl ⟨a, by rw [d1_ab ne h1 (by rw [← h2, ← a, en])]; omega⟩
  · exact .inr ⟨a, by rw [d1_ab ne h1 (by rw [← h2, ← a, en])]; omega⟩
theorem dn_ba (F : FM ps g d) (ne : g p.x ≠ g p.y) {s t : Int} (h1 : g s = g p.y) (h2 : g t = g p.x) {q : Pi} (m : q ∈ ps) :
    ((q.x = t ∧ d1 g d p s q.y + q.l = d1 g d p s t) ∨ (q.y = t ∧ d1 g d p s q.x + q.l = d1 g d p s t)) ↔ ((q.x = t ∧ d p.x q.y + q.l = d p.x t) ∨ (q.y = t ∧ d p.x q.x + q.l = d p.x t)) := by
  have en := F.ends q m
  rw [d1_ba ne h1 h2]
  constructor <;> rintro (⟨a, b⟩ | ⟨a, b⟩)
  · exact .inl ⟨a, by rw [d1_ba ne h1 (by rw [← h2, ← a, en])] at b; omega⟩
  · exact .inr ⟨a, by rw [d1_ba ne h1 (by rw [← h2, ← a, en])] at b; omega⟩
  · exact .inl ⟨a, by rw [d1_ba ne h1 (by rw [← h2, ← a, en])]; omega⟩
  · exact .inr ⟨a, by rw [d1_ba ne h1 (by rw [← h2, ← a, en])]; omega⟩
/-! the new pipe and an old one can't both lead down -/
theorem dn_new_old (F : FM ps g d) (ne : g p.x ≠ g p.y) (hl : 1 ≤ p.l) {s t : Int} (h : g1 g p s = g1 g p t) {q : Pi} (m : q ∈ ps)
    (hp : (p.x = t ∧ d1 g d p s p.y + p.l = d1 g d p s t) ∨ (p.y = t ∧ d1 g d p s p.x + p.l = d1 g d p s t))
    (hq : (q.x = t ∧ d1 g d p s q.y + q.l = d1 g d p s t) ∨ (q.y = t ∧ d1 g d p s q.x + q.l = d1 g d p s t)) : False := by
  have en := F.ends q m
  have ql := F.len q m
  rcases hp with ⟨rfl, b⟩ | ⟨rfl, b⟩
  · rcases g1_cases h with c | ⟨c1, c2⟩ | ⟨c1, c2⟩
    · rw [d1_ab ne c rfl, d1_same c, F.zero] at b; omega
    · exact ne c2
    · rcases (dn_ba F ne c1 c2 m).mp hq with ⟨a, z⟩ | ⟨a, z⟩
      · have := F.nn (s := p.x) (t := q.y) (by rw [← en, a]); rw [F.zero] at z; omega
      · have := F.nn (s := p.x) (t := q.x) (by rw [en, a]); rw [F.zero] at z; omega
  · rcases g1_cases h with c | ⟨c1, c2⟩ | ⟨c1, c2⟩
    · rw [d1_ba ne c rfl, d1_same c, F.zero] at b; omega
    · rcases (dn_ab F ne c1 c2 m).mp hq with ⟨a, z⟩ | ⟨a, z⟩
      · have := F.nn (s := p.y) (t := q.y) (by rw [← en, a]); rw [F.zero] at z; omega
      · have := F.nn (s := p.y) (t := q.x) (by rw [en, a]); rw [F.zero] at z; omega
    · exact ne c2.symm
theorem FM.snoc (F : FM ps g d) (ne : g p.x ≠ g p.y) (hl : 1 ≤ p.l) : FM (ps ++ [p]) (g1 g p) (d1 g d p) where
  len := fun q m => (List.mem_append.mp m).elim (F.len q) fun z => by rw [List.mem_singleton.mp z]; exact hl
  zero := fun s => by rw [d1_same rfl]; exact F.zero s
  sym := fun s t => by
    show d1 g d p s t = d1 g d p t s
    by_cases h : g s = g t
    · rw [d1_same h, d1_same h.symm]; exact F.sym s t
    · by_cases h1 : g s = g p.x ∧ g t = g p.y
      · rw [d1_ab ne h1.1 h1.2, d1_ba ne h1.2 h1.1, F.sym s p.x, F.sym t p.y]; omega
      · by_cases h2 : g s = g p.y ∧ g t = g p.x
        · rw [d1_ba ne h2.1 h2.2, d1_ab ne h2.2 h2.1, F.sym s p.y, F.sym t p.x]; omega
        · unfold d1
          rw [if_neg h, if_neg h1, if_neg h2, if_neg (fun z : g t = g s => h z.symm), if_neg (fun z : g t = g p.x ∧ g s = g p.y => h2 ⟨z.2, z.1⟩), if_neg (fun z : g t = g p.y ∧ g s = g p.x => h1 ⟨z.2, z.1⟩)]
  pos := fun s t h n => by
    rcases g1_cases h with c | ⟨c1, c2⟩ | ⟨c1, c2⟩
    · rw [d1_same c]; exact F.pos s t c n
    · rw [d1_ab ne c1 c2]; have := F.nn c1; have := F.nn (s := p.y) (t := t) c2.symm; omega
    · rw [d1_ba ne c1 c2]; have := F.nn c1; have := F.nn (s := p.x) (t := t) c2.symm; omega
  ends := fun q m => by
    rcases List.mem_append.mp m with m | m
    · unfold g1; rw [F.ends q m]
    · rw [List.mem_singleton.mp m]; unfold g1; rw [if_pos rfl, if_neg ne]
  step := fun q m s h => by
    rcases List.mem_append.mp m with m | m
    · have en := F.ends q m
      rcases g1_cases h with c | ⟨c1, c2⟩ | ⟨c1, c2⟩
      · rw [d1_same c, d1_same (c.trans en)]; exact F.step q m s c
      · rw [d1_ab ne c1 c2, d1_ab ne c1 (en.symm.trans c2)]; have := F.step q m p.y c2.symm; omega
      · rw [d1_ba ne c1 c2, d1_ba ne c1 (en.symm.trans c2)]; have := F.step q m p.x c2.symm; omega
    · rw [List.mem_singleton.mp m] at h ⊢
      rcases g1_cases h with c | ⟨c1, c2⟩ | ⟨c1, c2⟩
      · rw [d1_same c, d1_ab ne c rfl, F.zero]; omega
      · exact absurd c2 ne
      · rw [d1_ba ne c1 rfl, d1_same c1, F.zero]; omega
  par := fun s t h n => by
    rcases g1_cases h with c | ⟨c1, c2⟩ | ⟨c1, c2⟩
    · obtain ⟨i, q, e, z⟩ := F.par s t c n
      exact ⟨i, q, snoc_get e, (dn_same F c e (List.mem_of_getElem? e)).mpr z⟩
    · by_cases e : p.y = t
      · subst e
        exact ⟨ps.length, p, snoc_last, .inr ⟨rfl, by rw [d1_same c1, d1_ab ne c1 rfl, F.zero]; omega⟩⟩
      · obtain ⟨i, q, e, z⟩ := F.par p.y t c2.symm e
        exact ⟨i, q, snoc_get e, (dn_ab F ne c1 c2 (List.mem_of_getElem? e)).mpr z⟩
    · by_cases e : p.x = t
      · subst e
        exact ⟨ps.length, p, snoc_last, .inl ⟨rfl, by rw [d1_same c1, d1_ba ne c1 rfl, F.zero]; omega⟩⟩
      · obtain ⟨i, q, e, z⟩ := F.par p.x t c2.symm e
        exact ⟨i, q, snoc_get e, (dn_ba F ne c1 c2 (List.mem_of_getElem? e)).mpr z⟩
  uni := fun s t i j h ⟨q1, e1, z1⟩ ⟨q2, e2, z2⟩ => by
    rcases get_snoc e1 with ⟨f1, m1⟩ | ⟨f1, rfl⟩ <;> rcases get_snoc e2 with ⟨f2, m2⟩ | ⟨f2, k2⟩
    · rcases g1_cases h with c | ⟨c1, c2⟩ | ⟨c1, c2⟩
      · exact F.uni s t i j c ⟨q1, f1, (dn_same F c f1 m1).mp z1⟩ ⟨q2, f2, (dn_same F c f2 m2).mp z2⟩
      · exact F.uni p.y t i j c2.symm ⟨q1, f1, (dn_ab F ne c1 c2 m1).mp z1⟩ ⟨q2, f2, (dn_ab F ne c1 c2 m2).mp z2⟩
      · exact F.uni p.x t i j c2.symm ⟨q1, f1, (dn_ba F ne c1 c2 m1).mp z1⟩ ⟨q2, f2, (dn_ba F ne c1 c2 m2).mp z2⟩
    · subst k2; exact (dn_new_old F ne hl h m1 z2 z1).elim
    · exact (dn_new_old F ne hl h m2 z1 z2).elim
    · rw [f1, f2]
  side := fun i j q1 q2 nij e1 e2 h => by
    rcases get_snoc e1 with ⟨f1, m1⟩ | ⟨f1, k1⟩ <;> rcases get_snoc e2 with ⟨f2, m2⟩ | ⟨f2, k2⟩
    · have n1 := F.ends q1 m1
      have n2 := F.ends q2 m2
      rcases g1_cases h with c | ⟨c1, c2⟩ | ⟨c1, c2⟩
      · rw [d1_same c, d1_same (n1.symm.trans c), d1_same (c.trans n2), d1_same (n1.symm.trans (c.trans n2))]
        exact F.side i j q1 q2 nij f1 f2 c
      · rw [d1_ab ne c1 c2, d1_ab ne (n1.symm.trans c1) c2, d1_ab ne c1 (n2.symm.trans c2), d1_ab ne (n1.symm.trans c1) (n2.symm.trans c2)]; omega
      · rw [d1_ba ne c1 c2, d1_ba ne (n1.symm.trans c1) c2, d1_ba ne c1 (n2.symm.trans c2), d1_ba ne (n1.symm.trans c1) (n2.symm.trans c2)]; omega
    · subst k2
      have n1 := F.ends q1 m1
      rcases g1_cases h with c | ⟨c1, c2⟩ | ⟨c1, c2⟩
      · rw [d1_same c, d1_same (n1.symm.trans c), d1_ab ne c rfl, d1_ab ne (n1.symm.trans c) rfl]; omega
      · exact absurd c2 ne
      · rw [d1_ba ne c1 rfl, d1_ba ne (n1.symm.trans c1) rfl, d1_same c1, d1_same (n1.symm.trans c1), F.zero]; omega
    · subst k1
      have n2 := F.ends q2 m2
      rcases g1_cases h with c | ⟨c1, c2⟩ | ⟨c1, c2⟩
      · rw [d1_same c, d1_same (c.trans n2), d1_ba ne rfl c.symm, d1_ba ne rfl (n2.symm.trans c.symm), F.zero]; omega
      · rw [d1_ab ne rfl c2, d1_ab ne rfl (n2.symm.trans c2), d1_same c2.symm, d1_same (c2.symm.trans n2), F.zero]; omega
      · exact absurd c1 ne
    · exact absurd (f1.trans f2.symm) nij
end
/-! all pipes of a house, one behind another -/
theorem FM.all {n : Int} (n0 : 0 ≤ n) : ∀ (qs ps : List Pi) (gl : List Int) (g : Int → Int) (d : Int → Int → Int), FM ps g d → gl.length = n.toNat → (∀ r, 0 ≤ r → r < n → g r = grp gl r.toNat) →
    (∀ p ∈ qs, 0 ≤ p.x ∧ p.x < n ∧ 0 ≤ p.y ∧ p.y < n ∧ 1 ≤ p.l) → joins gl (edges qs) = true → ∃ g' d', FM (ps ++ qs) g' d'
  | [], ps, gl, g, d, F, _, _, _, _ => ⟨g, d, by rw [List.append_nil]; exact F⟩
  | p :: qs, ps, gl, g, d, F, hl, hg, ok, hj => by
    obtain ⟨a1, a2, a3, a4, a5⟩ := ok p List.mem_cons_self
    have hj' : (if grp gl p.x.toNat = grp gl p.y.toNat then false else joins (Rw.step gl (p.x.toNat, p.y.toNat)) (edges qs)) = true := hj
    split at hj'
    · cases hj'
    · rename_i ne
      have ne' : g p.x ≠ g p.y := by rw [hg _ a1 a2, hg _ a3 a4]; exact ne
      obtain ⟨g', d', F'⟩ := FM.all n0 qs (ps ++ [p]) (Rw.step gl (p.x.toNat, p.y.toNat)) (g1 g p) (d1 g d p) (F.snoc ne' a5) (by unfold Rw.step; rw [merge_len]; exact hl) (fun r r0 r1 => by
        unfold Rw.step g1
        rw [merge_grp (by omega), hg _ r0 r1, hg _ a1 a2, hg _ a3 a4]) (fun q m => ok q (List.mem_cons_of_mem _ m)) hj'
      exact ⟨g', d', by rw [List.append_assoc] at F'; exact F'⟩
/-! ### the rooms' distances of a house -/
structure Tm (n : Int) (ps : List Pi) (d : Int → Int → Int) : Prop where
  ok : ∀ p ∈ ps, 0 ≤ p.x ∧ p.x < n ∧ 0 ≤ p.y ∧ p.y < n ∧ 1 ≤ p.l
  zero : ∀ s, d s s = 0
  sym : ∀ s t, d s t = d t s
  pos : ∀ s t, 0 ≤ s → s < n → 0 ≤ t → t < n → s ≠ t → 0 < d s t
  step : ∀ p ∈ ps, ∀ s, 0 ≤ s → s < n → d s p.x = d s p.y + p.l ∨ d s p.y = d s p.x + p.l
  par : ∀ s t, 0 ≤ s → s < n → 0 ≤ t → t < n → s ≠ t → ∃ i, Dn ps d s t i
  uni : ∀ s t i j, 0 ≤ s → s < n → 0 ≤ t → t < n → Dn ps d s t i → Dn ps d s t j → i = j
  side : ∀ (i j : Nat) (p q : Pi), i ≠ j → ps[i]? = some p → ps[j]? = some q → d p.x q.x - d p.y q.x = d p.x q.y - d p.y q.y
theorem tree {n : Int} {ps : List Pi} (n0 : 1 ≤ n) (ln : (ps.length : Int) = n - 1) (ok : ∀ p ∈ ps, 0 ≤ p.x ∧ p.x < n ∧ 0 ≤ p.y ∧ p.y < n ∧ 1 ≤ p.l) (con : Con n.toNat (edges ps)) : ∃ d, Tm n ps d := by
  have hE : ∀ e ∈ edges ps, e.1 < n.toNat ∧ e.2 < n.toNat := by
    intro e he
    obtain ⟨p, m, rfl⟩ := List.mem_map.mp he
    obtain ⟨a1, a2, a3, a4, _⟩ := ok p m
    exact ⟨by show p.x.toNat < n.toNat; omega, by show p.y.toNat < n.toNat; omega⟩
  have hj := (joins_iff (by omega) hE (by unfold edges; rw [List.length_map]; omega)).mpr con
  obtain ⟨g, d, F⟩ := FM.all (n := n) (by omega) ps [] (start n.toNat) id _ FM.empty (by unfold start; rw [List.length_map, List.length_range]) (fun r r0 r1 => by
    unfold grp start
    rw [List.getD_eq_getElem?_getD, List.getElem?_map, List.getElem?_range (by omega)]
    show r = ((r.toNat : Nat) : Int)
    omega) ok hj
  rw [List.nil_append] at F
  have all : ∀ r, 0 ≤ r → r < n → g r = g 0 := by
    intro r r0 r1
    have := con (fun a => decide (g (a : Int) = g 0)) (fun e he => by
      obtain ⟨p, m, rfl⟩ := List.mem_map.mp he
      obtain ⟨a1, a2, a3, a4, _⟩ := ok p m
      show decide (g ((p.x.toNat : Nat) : Int) = g 0) = decide (g ((p.y.toNat : Nat) : Int) = g 0)
      rw [show ((p.x.toNat : Nat) : Int) = p.x by omega, show ((p.y.toNat : Nat) : Int) = p.y by omega, F.ends p m]) r.toNat (by omega)
    have h2 : decide (g ((r.toNat : Nat) : Int) = g 0) = decide (g ((0 : Nat) : Int) = g 0) := this
    rw [show ((r.toNat : Nat) : Int) = r by omega, show ((0 : Nat) : Int) = 0 from rfl, decide_eq_true (rfl : g 0 = g 0)] at h2
    exact of_decide_eq_true h2
  have two : ∀ s t, 0 ≤ s → s < n → 0 ≤ t → t < n → g s = g t := fun s t a b c e => (all s a b).trans (all t c e).symm
  have inx : ∀ p ∈ ps, g p.x = g 0 := fun p m => all _ (ok p m).1 (ok p m).2.1
  exact ⟨d, ok, F.zero, F.sym, fun s t a b c e => F.pos s t (two s t a b c e), fun p m s a b => F.step p m s ((all s a b).trans (inx p m).symm), fun s t a b c e => F.par s t (two s t a b c e), fun s t i j a b c e => F.uni s t i j (two s t a b c e),
    fun i j p q nij e1 e2 => F.side i j p q nij e1 e2 ((inx p (List.mem_of_getElem? e1)).trans (inx q (List.mem_of_getElem? e2)).symm)⟩
theorem Tm.nn {n : Int} {ps : List Pi} {d : Int → Int → Int} (T : Tm n ps d) {s t : Int} (a : 0 ≤ s) (b : s < n) (c : 0 ≤ t) (e : t < n) : 0 ≤ d s t := by
  by_cases h : s = t
  · subst h; rw [T.zero]; exact Int.le_refl 0
  · have := T.pos s t a b c e h; omega
end Rw

namespace Rw
open PySem PySem.Spec PyProof.Rows L2
def Pi.dat (p : Pi) : PyData := pipeD p.x p.y p.l p.na p.fl
structure Pi.ok (n : Int) (p : Pi) : Prop where
  x0 : 0 ≤ p.x
  x1 : p.x ≤ n - 1
  y0 : 0 ≤ p.y
  y1 : p.y ≤ n - 1
  xy : p.x < p.y
  fit : Fit p.l p.na p.fl
theorem ins_perm {α : Type} (xs : List α) (k : Nat) (y : α) : (xs.take k ++ [y] ++ xs.drop k).Perm (y :: xs) := by
  rw [List.append_assoc]
  refine List.perm_middle.trans ?_
  show (y :: (xs.take k ++ xs.drop k)).Perm (y :: xs)
  rw [List.take_append_drop]
theorem ins_sum {α : Type} (f : α → Nat) (xs : List α) (k : Nat) (y : α) : ((xs.take k ++ [y] ++ xs.drop k).map f).sum = f y + (xs.map f).sum := by
  have e : (xs.map f).sum = ((xs.take k).map f).sum + ((xs.drop k).map f).sum := by
    rw [← List.sum_append, ← List.map_append, List.take_append_drop]
  rw [List.map_append, List.map_append, List.sum_append, List.sum_append, e]
  simp only [List.map_cons, List.map_nil, List.sum_cons, List.sum_nil]
  omega
theorem start_succ (i : Nat) : (start (i + 1)).Perm ((i : Int) :: start i) := by
  unfold start
  rw [List.range_succ, List.map_append]
  exact List.perm_append_comm
theorem start_mem {n : Nat} {v : Int} : v ∈ start n ↔ 0 ≤ v ∧ v < n := by
  unfold start
  rw [List.mem_map]
  constructor
  · rintro ⟨a, ha, rfl⟩
    have := List.mem_range.mp ha
    exact ⟨Int.natCast_nonneg a, Int.ofNat_lt.mpr this⟩
  · rintro ⟨h0, h1⟩
    exact ⟨v.toNat, List.mem_range.mpr (by omega), by show ((v.toNat : Nat) : Int) = v; omega⟩
theorem start_nodup (n : Nat) : (start n).Nodup := by
  unfold start
  exact List.Pairwise.map _ (fun a b h q => h (Int.ofNat.inj q)) List.nodup_range
theorem perm2 {a b : Int} {ns : List Int} (h : ns.Perm [a, b]) : ns = [a, b] ∨ ns = [b, a] := by
  have hl : ns.length = 2 := h.length_eq
  match ns, hl with
  | [u, v], _ =>
    have hu : u = a ∨ u = b := by simpa using h.mem_iff.mp (List.mem_cons_self (a := u) (l := [v]))
    rcases hu with rfl | rfl
    · have := (List.perm_cons u).mp h
      have e := List.perm_singleton.mp this
      left; rw [e]
    · have h2 : [u, v].Perm [u, a] := h.trans (List.Perm.swap u a [])
      have := (List.perm_cons u).mp h2
      have e := List.perm_singleton.mp this
      right; rw [e]
end Rw

namespace Rw
open PySem PySem.Spec PyProof.Rows L2
mutual
theorem Dt.dp {K : PySem.W.Frag} {av : List Addr} {H : Hp} : ∀ (d : PyData) (v : V), Dt av H v d → d.canLay0 = true → Dp K H v d
  | _, _, .non, _ => .non
  | _, _, .bl b, _ => .bl b
  | _, _, .int i, _ => .int i
  | _, _, .str x, _ => .str x
  | .list ds, _, .lst n e s, h => .lst (SqL.of e) (Dts.dp ds _ s (by simpa only [PyData.canLay0] using h))
  | .tuple ds, _, .tup n e s, h => .tup (SqT.of e) (Dts.dp ds _ s (by simpa only [PyData.canLay0] using h))
  | .dict _, _, .dct n e, h => by simp only [PyData.canLay0] at h; cases h
theorem Dts.dp {K : PySem.W.Frag} {av : List Addr} {H : Hp} : ∀ (ds : List PyData) (vs : List V), Dts av H vs ds → PyData.canLayAll0 ds = true → DpAll K H vs ds
  | [], _, .nil, _ => .nil
  | d :: ds, _, .cons x t, h => by
    simp only [PyData.canLayAll0, Bool.and_eq_true] at h
    exact .cons (Dt.dp d _ x h.1) (Dts.dp ds _ t h.2)
end
theorem lay_prs : ∀ na : List (Int × Int), PyData.canLayAll0 (na.map prD) = true
  | [] => by simp [PyData.canLayAll0]
  | p :: na => by
    have e : prD p = .tuple [.int p.1, .int p.2] := rfl
    rw [List.map_cons, e]
    simp only [PyData.canLayAll0, PyData.canLay0, lay_prs na, Bool.and_true]
theorem lay_pis : ∀ ps : List Pi, PyData.canLayAll0 (ps.map Pi.dat) = true
  | [] => by simp [PyData.canLayAll0]
  | p :: ps => by
    have e : p.dat = .tuple [.int p.x, .int p.y, .int p.l, .tuple (p.na.map prD), .tuple (p.fl.map prD)] := rfl
    rw [List.map_cons, e]
    simp only [PyData.canLayAll0, PyData.canLay0, lay_prs, lay_pis ps, Bool.and_true]
theorem shaped_of {d : PyData} (h : d.canLay0 = true) (h2 : d.depth ≤ 64) : SeqAt.shaped d = true := by
  unfold SeqAt.shaped
  rw [h, decide_eq_true h2]; rfl
theorem eqv_nil (ds : List PyData) : PyData.eqv (.tuple ds) (.tuple []) = ds.isEmpty := by
  cases ds <;> rfl
/-! ### a house as it is handed about: its two parts -/
theorem house_parts {av : List Addr} {H : Hp} {h : V} {n : Int} {ps : List PyData} (x : Dt av H h (houseD n ps)) :
    ∃ (ah ap : Addr) (xp : List V), h = .ref ah ∧ ah ∉ av ∧ H ah = some (.tup [.int n, .ref ap]) ∧ ap ∉ av ∧ H ap = some (.tup xp) ∧ Dts av H xp ps := by
  cases x with
  | tup na ea da =>
    cases da with
    | cons d1 da =>
      cases d1
      cases da with
      | cons d2 da =>
        cases da
        cases d2 with
        | tup nb eb db => exact ⟨_, _, _, rfl, na, ea, nb, eb, db⟩
/-! the pipe at a place -/
theorem pi_at {av : List Addr} {H : Hp} {xp : List V} {ps : List Pi} (hs : Dts av H xp (ps.map Pi.dat)) {i : Int} (h0 : 0 ≤ i) (h1 : i < ps.length) :
    ∃ (p : Pi) (pa T1 T2 : Addr), p ∈ ps ∧ ps[i.toNat]? = some p ∧ atI xp i = some (.ref pa) ∧ H pa = some (.tup [.int p.x, .int p.y, .int p.l, .ref T1, .ref T2]) := by
  have e : ps[i.toNat]? = some (ps[i.toNat]'(by omega)) := List.getElem?_eq_getElem (by omega)
  obtain ⟨v, ev, dv⟩ := hs.get i.toNat (d := (ps[i.toNat]'(by omega)).dat) (by rw [List.getElem?_map, e]; rfl)
  have ep : (ps[i.toNat]'(by omega)).dat = .tuple [.int (ps[i.toNat]'(by omega)).x, .int (ps[i.toNat]'(by omega)).y, .int (ps[i.toNat]'(by omega)).l, .tuple ((ps[i.toNat]'(by omega)).na.map prD), .tuple ((ps[i.toNat]'(by omega)).fl.map prD)] := rfl
  rw [ep] at dv
  cases dv with
  | tup na ea da =>
    cases da with
    | cons d1 da => cases d1; cases da with
      | cons d2 da => cases d2; cases da with
        | cons d3 da => cases d3; cases da with
          | cons d4 da => cases d4 with
            | tup _ _ _ => cases da with
              | cons d5 da => cases d5 with
                | tup _ _ _ =>
                  cases da
                  exact ⟨_, _, _, _, List.getElem_mem _, e, atI_of h0 ev, ea⟩
end Rw

namespace Rw
/-! ### places of a house, their distances -/
def pr (ps : List Pi) (i : Int) : Pi := ps.getD i.toNat default
theorem pr_mem {ps : List Pi} {i : Int} (h0 : 0 ≤ i) (h1 : i < ps.length) : pr ps i ∈ ps ∧ ps[i.toNat]? = some (pr ps i) := by
  have e : ps[i.toNat]? = some (ps[i.toNat]'(by omega)) := List.getElem?_eq_getElem (by omega)
  unfold pr
  rw [List.getD_eq_getElem?_getD, e]
  exact ⟨List.getElem_mem _, rfl⟩
theorem pr_of {ps : List Pi} {j : Nat} {p : Pi} (h : ps[j]? = some p) : pr ps (j : Int) = p := by
  unfold pr
  rw [List.getD_eq_getElem?_getD, show ((j : Int)).toNat = j by omega, h]; rfl
abbrev Pl := List Int
def okP (n : Int) (ps : List Pi) : Pl → Prop
  | [r] => 0 ≤ r ∧ r < n
  | [i, a] => 0 ≤ i ∧ i < ps.length ∧ 1 ≤ a ∧ a ≤ (pr ps i).l - 1
  | _ => False
def ab (a b : Int) : Int := if a < b then b - a else a - b
def dr (ps : List Pi) (d : Int → Int → Int) (s i a : Int) : Int := min (d s (pr ps i).x + a) (d s (pr ps i).y + ((pr ps i).l - a))
def Dp (ps : List Pi) (d : Int → Int → Int) : Pl → Pl → Int
  | [s], [t] => d s t
  | [s], [i, a] => dr ps d s i a
  | [i, a], [s] => dr ps d s i a
  | [i, a], [j, b] => if i = j then ab a b else min (a + dr ps d (pr ps i).x j b) ((pr ps i).l - a + dr ps d (pr ps i).y j b)
  | _, _ => 0
def nm (ps : List Pi) (i a : Int) : Pl := if a = 0 then [(pr ps i).x] else if a = (pr ps i).l then [(pr ps i).y] else [i, a]
def Adj (ps : List Pi) (p q : Pl) : Prop := ∃ i a : Int, 0 ≤ i ∧ i < ps.length ∧ 0 ≤ a ∧ a < (pr ps i).l ∧ ((p = nm ps i a ∧ q = nm ps i (a + 1)) ∨ (q = nm ps i a ∧ p = nm ps i (a + 1)))
theorem Adj.symm {ps : List Pi} {p q : Pl} (h : Adj ps p q) : Adj ps q p := by
  obtain ⟨i, a, h1, h2, h3, h4, h5⟩ := h
  exact ⟨i, a, h1, h2, h3, h4, h5.symm⟩
theorem ok_cases {n : Int} {ps : List Pi} {p : Pl} (h : okP n ps p) : (∃ r, p = [r] ∧ 0 ≤ r ∧ r < n) ∨ ∃ i a, p = [i, a] ∧ 0 ≤ i ∧ i < ps.length ∧ 1 ≤ a ∧ a ≤ (pr ps i).l - 1 := by
  match p, h with
  | [r], h => exact .inl ⟨r, rfl, h⟩
  | [i, a], h => exact .inr ⟨i, a, rfl, h⟩
/-! how a source is seen along a pipe: its foot -/
def foot1 (ps : List Pi) (d : Int → Int → Int) (r i : Int) : Int := if d r (pr ps i).y = d r (pr ps i).x + (pr ps i).l then 0 else (pr ps i).l
def foot (ps : List Pi) (d : Int → Int → Int) : Pl → Int → Int
  | [r], i => foot1 ps d r i
  | [j, b], i => if j = i then b else if d (pr ps j).x (pr ps i).x < d (pr ps j).y (pr ps i).x then foot1 ps d (pr ps j).x i else foot1 ps d (pr ps j).y i
  | _, _ => 0
section
variable {n : Int} {ps : List Pi} {d : Int → Int → Int} (T : Tm n ps d)
include T
theorem Tm.at {i : Int} (h0 : 0 ≤ i) (h1 : i < ps.length) : 0 ≤ (pr ps i).x ∧ (pr ps i).x < n ∧ 0 ≤ (pr ps i).y ∧ (pr ps i).y < n ∧ 1 ≤ (pr ps i).l := T.ok _ (pr_mem h0 h1).1
theorem Tm.stp {i s : Int} (h0 : 0 ≤ i) (h1 : i < ps.length) (s0 : 0 ≤ s) (s1 : s < n) : d s (pr ps i).x = d s (pr ps i).y + (pr ps i).l ∨ d s (pr ps i).y = d s (pr ps i).x + (pr ps i).l := T.step _ (pr_mem h0 h1).1 s s0 s1
theorem Tm.own {i : Int} (h0 : 0 ≤ i) (h1 : i < ps.length) : d (pr ps i).x (pr ps i).y = (pr ps i).l ∧ d (pr ps i).y (pr ps i).x = (pr ps i).l ∧ (pr ps i).x ≠ (pr ps i).y := by
  obtain ⟨a1, a2, a3, a4, a5⟩ := T.at h0 h1
  have e1 := T.stp h0 h1 a1 a2
  have e2 := T.sym (pr ps i).x (pr ps i).y
  have e3 := T.zero (pr ps i).x
  have e4 := T.nn a1 a2 a3 a4
  refine ⟨by omega, by omega, fun z => ?_⟩
  rw [← z] at e1
  omega
theorem Tm.sd {i j : Int} (h0 : 0 ≤ i) (h1 : i < ps.length) (k0 : 0 ≤ j) (k1 : j < ps.length) (ne : j ≠ i) :
    d (pr ps j).x (pr ps i).x - d (pr ps j).y (pr ps i).x = d (pr ps j).x (pr ps i).y - d (pr ps j).y (pr ps i).y :=
  T.side j.toNat i.toNat _ _ (by omega) (pr_mem k0 k1).2 (pr_mem h0 h1).2
theorem foot1_at {i r : Int} (h0 : 0 ≤ i) (h1 : i < ps.length) (r0 : 0 ≤ r) (r1 : r < n) {a : Int} (a0 : 0 ≤ a) (a1 : a ≤ (pr ps i).l) :
    dr ps d r i a = dr ps d r i (foot1 ps d r i) + ab a (foot1 ps d r i) ∧ (foot1 ps d r i = 0 ∨ foot1 ps d r i = (pr ps i).l) := by
  have l1 := (T.at h0 h1).2.2.2.2
  have st := T.stp h0 h1 r0 r1
  unfold dr foot1 ab
  by_cases u : d r (pr ps i).y = d r (pr ps i).x + (pr ps i).l
  · rw [if_pos u]; refine ⟨?_, .inl rfl⟩; split <;> omega
  · rw [if_neg u]; refine ⟨?_, .inr rfl⟩; split <;> omega
theorem dr_0 {i r : Int} (h0 : 0 ≤ i) (h1 : i < ps.length) (r0 : 0 ≤ r) (r1 : r < n) : dr ps d r i 0 = d r (pr ps i).x ∧ dr ps d r i (pr ps i).l = d r (pr ps i).y := by
  have l1 := (T.at h0 h1).2.2.2.2
  have st := T.stp h0 h1 r0 r1
  unfold dr; omega
/-! along a pipe, from a room -/
theorem Dp_room {i r : Int} (h0 : 0 ≤ i) (h1 : i < ps.length) (r0 : 0 ≤ r) (r1 : r < n) (a : Int) : Dp ps d [r] (nm ps i a) = dr ps d r i a := by
  unfold nm
  by_cases e : a = 0
  · rw [if_pos e, e]; exact (dr_0 T h0 h1 r0 r1).1.symm
  · rw [if_neg e]
    by_cases f : a = (pr ps i).l
    · rw [if_pos f, f]; exact (dr_0 T h0 h1 r0 r1).2.symm
    · rw [if_neg f]; rfl
/-! along a pipe, from a place of it -/
theorem Dp_same {i b : Int} (h0 : 0 ≤ i) (h1 : i < ps.length) (b0 : 1 ≤ b) (b1 : b ≤ (pr ps i).l - 1) (a : Int) : Dp ps d [i, b] (nm ps i a) = ab b a := by
  obtain ⟨o1, o2, o3⟩ := T.own h0 h1
  have z1 := T.zero (pr ps i).x
  have z2 := T.zero (pr ps i).y
  unfold nm
  by_cases e : a = 0
  · rw [if_pos e, e]; show dr ps d (pr ps i).x i b = _; unfold dr ab; split <;> omega
  · rw [if_neg e]
    by_cases f : a = (pr ps i).l
    · rw [if_pos f, f]; show dr ps d (pr ps i).y i b = _; unfold dr ab; split <;> omega
    · rw [if_neg f]; show (if i = i then ab b a else _) = _; rw [if_pos rfl]
/-! along a pipe, from a place of another one: as from the room on this side -/
theorem Dp_else {i j b : Int} (h0 : 0 ≤ i) (h1 : i < ps.length) (k0 : 0 ≤ j) (k1 : j < ps.length) (ne : j ≠ i) (b0 : 1 ≤ b) (b1 : b ≤ (pr ps j).l - 1) (a : Int) (a0 : 0 ≤ a) (a1 : a ≤ (pr ps i).l) :
    Dp ps d [j, b] (nm ps i a) = if d (pr ps j).x (pr ps i).x < d (pr ps j).y (pr ps i).x then b + dr ps d (pr ps j).x i a else (pr ps j).l - b + dr ps d (pr ps j).y i a := by
  obtain ⟨x0, x1, y0, y1, l1⟩ := T.at h0 h1
  obtain ⟨u0, u1, v0, v1, m1⟩ := T.at k0 k1
  have sd := T.sd h0 h1 k0 k1 ne
  have s1 := T.stp k0 k1 x0 x1
  have s2 := T.stp k0 k1 y0 y1
  rw [T.sym _ (pr ps j).x, T.sym _ (pr ps j).y] at s1 s2
  have t1 := T.stp h0 h1 u0 u1
  have t2 := T.stp h0 h1 v0 v1
  have main : min (b + dr ps d (pr ps j).x i a) ((pr ps j).l - b + dr ps d (pr ps j).y i a) = if d (pr ps j).x (pr ps i).x < d (pr ps j).y (pr ps i).x then b + dr ps d (pr ps j).x i a else (pr ps j).l - b + dr ps d (pr ps j).y i a := by
    unfold dr
    split <;> omega
  rw [← main]
  unfold nm
  by_cases e : a = 0
  · rw [if_pos e, e, (dr_0 T h0 h1 u0 u1).1, (dr_0 T h0 h1 v0 v1).1]
    show dr ps d (pr ps i).x j b = _
    unfold dr
    rw [T.sym _ (pr ps j).x, T.sym _ (pr ps j).y]
    omega
  · rw [if_neg e]
    by_cases f : a = (pr ps i).l
    · rw [if_pos f, f, (dr_0 T h0 h1 u0 u1).2, (dr_0 T h0 h1 v0 v1).2]
      show dr ps d (pr ps i).y j b = _
      unfold dr
      rw [T.sym _ (pr ps j).x, T.sym _ (pr ps j).y]
      omega
    · rw [if_neg f]
      show (if j = i then ab b a else _) = _
      rw [if_neg ne]
theorem foot_at {s : Pl} (hs : okP n ps s) {i : Int} (h0 : 0 ≤ i) (h1 : i < ps.length) : 0 ≤ foot ps d s i ∧ foot ps d s i ≤ (pr ps i).l ∧ (0 < foot ps d s i → foot ps d s i < (pr ps i).l → s = [i, foot ps d s i]) ∧
    ∀ a, 0 ≤ a → a ≤ (pr ps i).l → Dp ps d s (nm ps i a) = Dp ps d s (nm ps i (foot ps d s i)) + ab a (foot ps d s i) := by
  have l1 := (T.at h0 h1).2.2.2.2
  rcases ok_cases hs with ⟨r, rfl, r0, r1⟩ | ⟨j, b, rfl, k0, k1, b0, b1⟩
  · have f := fun a => foot1_at T (a := a) h0 h1 r0 r1
    have f0 := (f 0 (by omega) (by omega)).2
    show 0 ≤ foot1 ps d r i ∧ foot1 ps d r i ≤ _ ∧ (0 < foot1 ps d r i → foot1 ps d r i < _ → _) ∧ ∀ a, _ → _ → _ = Dp ps d [r] (nm ps i (foot1 ps d r i)) + ab a (foot1 ps d r i)
    refine ⟨by omega, by omega, fun _ _ => by omega, fun a a0 a1 => ?_⟩
    rw [Dp_room T h0 h1 r0 r1, Dp_room T h0 h1 r0 r1]
    exact (f a a0 a1).1
  · by_cases e : j = i
    · subst e
      have ef : foot ps d [j, b] j = b := if_pos rfl
      rw [ef]
      refine ⟨by omega, by omega, fun _ _ => rfl, fun a a0 a1 => ?_⟩
      rw [Dp_same T h0 h1 b0 b1, Dp_same T h0 h1 b0 b1]
      unfold ab
      split <;> split <;> omega
    · obtain ⟨u0, u1, v0, v1, m1⟩ := T.at k0 k1
      by_cases c : d (pr ps j).x (pr ps i).x < d (pr ps j).y (pr ps i).x
      · have ef : foot ps d [j, b] i = foot1 ps d (pr ps j).x i := (if_neg e).trans (if_pos c)
        have f := fun a => foot1_at T (a := a) h0 h1 u0 u1
        have f0 := (f 0 (by omega) (by omega)).2
        rw [ef]
        refine ⟨by omega, by omega, fun _ _ => by omega, fun a a0 a1 => ?_⟩
        rw [Dp_else T h0 h1 k0 k1 e b0 b1 a a0 a1, Dp_else T h0 h1 k0 k1 e b0 b1 _ (by omega) (by omega), if_pos c, if_pos c]
        have := (f a a0 a1).1
        omega
      · have ef : foot ps d [j, b] i = foot1 ps d (pr ps j).y i := (if_neg e).trans (if_neg c)
        have f := fun a => foot1_at T (a := a) h0 h1 v0 v1
        have f0 := (f 0 (by omega) (by omega)).2
        rw [ef]
        refine ⟨by omega, by omega, fun _ _ => by omega, fun a a0 a1 => ?_⟩
        rw [Dp_else T h0 h1 k0 k1 e b0 b1 a a0 a1, Dp_else T h0 h1 k0 k1 e b0 b1 _ (by omega) (by omega), if_neg c, if_neg c]
        have := (f a a0 a1).1
        omega
/-! one step nearer, one step farther -/
theorem Dp_step {s : Pl} (hs : okP n ps s) {p q : Pl} (h : Adj ps p q) : Dp ps d s q = Dp ps d s p + 1 ∨ Dp ps d s p = Dp ps d s q + 1 := by
  obtain ⟨i, a, h0, h1, a0, a1, h⟩ := h
  obtain ⟨_, _, _, f⟩ := foot_at T hs h0 h1
  have e1 := f a a0 (by omega)
  have e2 := f (a + 1) (by omega) (by omega)
  unfold ab at e1 e2
  rcases h with ⟨rfl, rfl⟩ | ⟨rfl, rfl⟩ <;> (split at e1 <;> split at e2 <;> omega)
/-! a door at a room by which one comes nearer -/
theorem foot1_door {r t i : Int} (h0 : 0 ≤ i) (h1 : i < ps.length) (r0 : 0 ≤ r) (r1 : r < n) : Dn ps d r t i.toNat ↔ (((pr ps i).x = t ∧ foot1 ps d r i ≠ 0) ∨ ((pr ps i).y = t ∧ foot1 ps d r i ≠ (pr ps i).l)) := by
  have l1 := (T.at h0 h1).2.2.2.2
  have st := T.stp h0 h1 r0 r1
  constructor
  · rintro ⟨p, e, h⟩
    rw [(pr_mem h0 h1).2] at e
    cases e
    unfold foot1
    rcases h with ⟨e1, e2⟩ | ⟨e1, e2⟩
    · left; refine ⟨e1, ?_⟩; rw [← e1] at e2; rw [if_neg (by omega)]; omega
    · right; refine ⟨e1, ?_⟩; rw [← e1] at e2; rw [if_pos (by omega)]; omega
  · intro h
    refine ⟨_, (pr_mem h0 h1).2, ?_⟩
    unfold foot1 at h
    rcases h with ⟨e1, e2⟩ | ⟨e1, e2⟩
    · left; refine ⟨e1, ?_⟩
      by_cases u : d r (pr ps i).y = d r (pr ps i).x + (pr ps i).l
      · rw [if_pos u] at e2; exact absurd rfl e2
      · rw [← e1]; omega
    · right; refine ⟨e1, ?_⟩
      by_cases u : d r (pr ps i).y = d r (pr ps i).x + (pr ps i).l
      · rw [← e1]; omega
      · rw [if_neg u] at e2; exact absurd rfl e2
/-! a room on the one side of a pipe: its doors are seen from that side's room -/
theorem foot_side {j b t : Int} (k0 : 0 ≤ j) (k1 : j < ps.length) (b0 : 1 ≤ b) (b1 : b ≤ (pr ps j).l - 1) (t0 : 0 ≤ t) (t1 : t < n) :
    ∃ c, (c = (pr ps j).x ∨ c = (pr ps j).y) ∧ 0 ≤ c ∧ c < n ∧
      (∀ i : Int, 0 ≤ i → i < ps.length → ((pr ps i).x = t ∨ (pr ps i).y = t) → i ≠ j → foot ps d [j, b] i = foot1 ps d c i) ∧
      ((pr ps j).x = t → c = t) ∧ ((pr ps j).y = t → c = t) := by
  obtain ⟨u0, u1, v0, v1, m1⟩ := T.at k0 k1
  obtain ⟨o1, o2, o3⟩ := T.own k0 k1
  have zx := T.zero (pr ps j).x
  have zy := T.zero (pr ps j).y
  by_cases c : d (pr ps j).x t < d (pr ps j).y t
  · refine ⟨(pr ps j).x, .inl rfl, u0, u1, fun i h0 h1 ht ne => ?_, fun e => e, fun e => ?_⟩
    · have sd := T.sd h0 h1 k0 k1 (Ne.symm ne)
      have c' : d (pr ps j).x (pr ps i).x < d (pr ps j).y (pr ps i).x := by rcases ht with e | e <;> rw [← e] at c <;> omega
      exact (if_neg (Ne.symm ne)).trans (if_pos c')
    · rw [← e] at c; omega
  · refine ⟨(pr ps j).y, .inr rfl, v0, v1, fun i h0 h1 ht ne => ?_, fun e => ?_, fun e => e⟩
    · have sd := T.sd h0 h1 k0 k1 (Ne.symm ne)
      have c' : ¬ d (pr ps j).x (pr ps i).x < d (pr ps j).y (pr ps i).x := by rcases ht with e | e <;> rw [← e] at c <;> omega
      exact (if_neg (Ne.symm ne)).trans (if_neg c')
    · rw [← e] at c; omega
/-! at a room that isn't the source there is just one such door -/
def Door (ps : List Pi) (d : Int → Int → Int) (s : Pl) (t i : Int) : Prop := 0 ≤ i ∧ i < ps.length ∧ (((pr ps i).x = t ∧ foot ps d s i ≠ 0) ∨ ((pr ps i).y = t ∧ foot ps d s i ≠ (pr ps i).l))
theorem own_foot {c i : Int} (h0 : 0 ≤ i) (h1 : i < ps.length) (c0 : 0 ≤ c) (c1 : c < n) : ((pr ps i).x = c → foot1 ps d c i = 0) ∧ ((pr ps i).y = c → foot1 ps d c i = (pr ps i).l) := by
  obtain ⟨x0, x1, y0, y1, l1⟩ := T.at h0 h1
  obtain ⟨o1, o2, o3⟩ := T.own h0 h1
  have zx := T.zero (pr ps i).x
  have zy := T.zero (pr ps i).y
  unfold foot1
  exact ⟨fun e => by rw [← e, if_pos (by omega)], fun e => by rw [← e, if_neg (by omega)]⟩
theorem door_ex {s : Pl} (hs : okP n ps s) {t : Int} (t0 : 0 ≤ t) (t1 : t < n) (ne : s ≠ [t]) : ∃ i, Door ps d s t i := by
  rcases ok_cases hs with ⟨r, rfl, r0, r1⟩ | ⟨j, b, rfl, k0, k1, b0, b1⟩
  · obtain ⟨i, p, e, h⟩ := T.par r t r0 r1 t0 t1 (fun z => ne (by rw [z]))
    have hi : i < ps.length := (List.getElem?_eq_some_iff.mp e).1
    refine ⟨(i : Int), by omega, by omega, ?_⟩
    exact (foot1_door T (by omega) (by omega) r0 r1).mp ⟨p, by rw [show ((i : Int)).toNat = i by omega]; exact e, h⟩
  · obtain ⟨c, hc, c0, c1, hf, ex, ey⟩ := foot_side T k0 k1 b0 b1 t0 t1
    have ej : foot ps d [j, b] j = b := if_pos rfl
    by_cases z : c = t
    · subst z
      rcases hc with e | e
      · exact ⟨j, k0, k1, .inl ⟨e.symm, by rw [ej]; omega⟩⟩
      · exact ⟨j, k0, k1, .inr ⟨e.symm, by rw [ej]; omega⟩⟩
    · obtain ⟨i, p, e, h⟩ := T.par c t c0 c1 t0 t1 z
      have hi : i < ps.length := (List.getElem?_eq_some_iff.mp e).1
      have dd := (foot1_door T (t := t) (i := (i : Int)) (by omega) (by omega) c0 c1).mp ⟨p, by rw [show ((i : Int)).toNat = i by omega]; exact e, h⟩
      have nj : (i : Int) ≠ j := fun w => by
        rw [w] at dd
        rcases dd with ⟨e1, _⟩ | ⟨e1, _⟩
        · exact z (ex e1)
        · exact z (ey e1)
      refine ⟨(i : Int), by omega, by omega, ?_⟩
      rw [hf i (by omega) (by omega) (dd.elim (fun q => .inl q.1) (fun q => .inr q.1)) nj]
      exact dd
theorem door_uni {s : Pl} (hs : okP n ps s) {t : Int} (t0 : 0 ≤ t) (t1 : t < n) {i i' : Int} (h : Door ps d s t i) (h' : Door ps d s t i') : i = i' := by
  obtain ⟨h0, h1, h2⟩ := h
  obtain ⟨g0, g1, g2⟩ := h'
  rcases ok_cases hs with ⟨r, rfl, r0, r1⟩ | ⟨j, b, rfl, k0, k1, b0, b1⟩
  · have := T.uni r t i.toNat i'.toNat r0 r1 t0 t1 ((foot1_door T h0 h1 r0 r1).mpr h2) ((foot1_door T g0 g1 r0 r1).mpr g2)
    omega
  · obtain ⟨c, hc, c0, c1, hf, ex, ey⟩ := foot_side T k0 k1 b0 b1 t0 t1
    have self : ∀ k : Int, 0 ≤ k → k < ps.length → (((pr ps k).x = t ∧ foot ps d [j, b] k ≠ 0) ∨ ((pr ps k).y = t ∧ foot ps d [j, b] k ≠ (pr ps k).l)) → k ≠ j → c ≠ t ∧ Dn ps d c t k.toNat := by
      intro k p0 p1 p2 nk
      rw [hf k p0 p1 (p2.elim (fun q => .inl q.1) (fun q => .inr q.1)) nk] at p2
      refine ⟨fun z => ?_, (foot1_door T p0 p1 c0 c1).mpr p2⟩
      have o := own_foot T p0 p1 c0 c1
      rcases p2 with ⟨e1, e2⟩ | ⟨e1, e2⟩
      · exact e2 (o.1 (by rw [e1, z]))
      · exact e2 (o.2 (by rw [e1, z]))
    have atj : (((pr ps j).x = t ∧ foot ps d [j, b] j ≠ 0) ∨ ((pr ps j).y = t ∧ foot ps d [j, b] j ≠ (pr ps j).l)) → c = t := fun q => q.elim (fun z => ex z.1) (fun z => ey z.1)
    by_cases e : i = j
    · by_cases e' : i' = j
      · rw [e, e']
      · rw [e] at h2
        exact absurd (atj h2) (self i' g0 g1 g2 e').1
    · by_cases e' : i' = j
      · rw [e'] at g2
        exact absurd (atj g2) (self i h0 h1 h2 e).1
      · have := T.uni c t i.toNat i'.toNat c0 c1 t0 t1 (self i h0 h1 h2 e).2 (self i' g0 g1 g2 e').2
        omega
end
end Rw

namespace Rw
/-! ### going through a tree from a source -/
structure Sr {α : Type} (src : α) (V : α → Prop) (D : α → Int) (E : α → α → Int → Prop) : Prop where
  zero : D src = 0
  here : V src
  nn : ∀ v, V v → 0 ≤ D v
  wt : ∀ u v w, V u → E u v w → 1 ≤ w
  cl : ∀ u v w, V u → E u v w → V v
  sym : ∀ u v w, E u v w → E v u w
  step : ∀ u v w, V u → E u v w → D v = D u + w ∨ D u = D v + w
  par : ∀ v, V v → v ≠ src → ∃ u w, E v u w ∧ D v = D u + w
  uni : ∀ v u w u' w', V v → E v u w → E v u' w' → D v = D u + w → D v = D u' + w' → u = u'
/-! what was found holds with each the one nearer to the source -/
def Pard {α : Type} (src : α) (D : α → Int) (E : α → α → Int → Prop) (F : List α) : Prop := ∀ v ∈ F, v ≠ src → ∃ u ∈ F, ∃ w, E v u w ∧ D v = D u + w
theorem Sr.found {α : Type} {src : α} {V : α → Prop} {D : α → Int} {E : α → α → Int → Prop} (S : Sr src V D E) {F : List α} (P : Pard src D E F) {u v : α} {w : Int} (hu : u ∈ F) (vu : V u) (e : E u v w) (hv : v ∉ F) : D v = D u + w := by
  rcases S.step u v w vu e with h | h
  · exact h
  · have h1 := S.nn v (S.cl u v w vu e)
    have h2 := S.wt u v w vu e
    have ne : u ≠ src := fun z => by rw [z, S.zero] at h; omega
    obtain ⟨u', m, w', e', h'⟩ := P u hu ne
    have := S.uni u v w u' w' vu e e' h h'
    rw [this] at hv
    exact absurd m hv
theorem Pard.snoc {α : Type} {src : α} {D : α → Int} {E : α → α → Int → Prop} {F : List α} (P : Pard src D E F) {u v : α} {w : Int} (hu : u ∈ F) (e : E v u w) (h : D v = D u + w) : Pard src D E (F ++ [v]) := fun x hx nx => by
  rcases List.mem_append.mp hx with m | m
  · obtain ⟨y, my, r⟩ := P x m nx
    exact ⟨y, List.mem_append_left _ my, r⟩
  · rw [List.mem_singleton.mp m]
    exact ⟨u, List.mem_append_left _ hu, w, e, h⟩
theorem Sr.all {α : Type} {src : α} {V : α → Prop} {D : α → Int} {E : α → α → Int → Prop} (S : Sr src V D E) {F : List α} (h0 : src ∈ F) (hc : ∀ u ∈ F, ∀ v w, E u v w → v ∈ F) : ∀ (k : Nat) (v : α), V v → (D v).toNat < k → v ∈ F
  | 0, _, _, h => absurd h (Nat.not_lt_zero _)
  | k + 1, v, vv, h => by
    by_cases e : v = src
    · rw [e]; exact h0
    · obtain ⟨u, w, euv, hd⟩ := S.par v vv e
      have vu := S.cl v u w vv euv
      have n1 := S.nn u vu
      have n2 := S.wt v u w vv euv
      exact hc u (S.all h0 hc k u vu (by omega)) v w (S.sym v u w euv)
/-! ### rooms -/
def RE (ps : List Pi) (u v w : Int) : Prop := ∃ (i : Nat) (p : Pi), ps[i]? = some p ∧ w = p.l ∧ ((p.x = u ∧ p.y = v) ∨ (p.y = u ∧ p.x = v))
theorem Tm.rooms {n : Int} {ps : List Pi} {d : Int → Int → Int} (T : Tm n ps d) {r : Int} (r0 : 0 ≤ r) (r1 : r < n) : Sr r (fun t => 0 ≤ t ∧ t < n) (d r) (RE ps) where
  zero := T.zero r
  here := ⟨r0, r1⟩
  nn := fun v h => T.nn r0 r1 h.1 h.2
  wt := fun u v w _ ⟨i, p, e, hw, _⟩ => by rw [hw]; exact (T.ok p (List.mem_of_getElem? e)).2.2.2.2
  cl := fun u v w _ ⟨i, p, e, _, h⟩ => by
    obtain ⟨a1, a2, a3, a4, _⟩ := T.ok p (List.mem_of_getElem? e)
    rcases h with ⟨_, h⟩ | ⟨_, h⟩ <;> rw [← h]
    · exact ⟨a3, a4⟩
    · exact ⟨a1, a2⟩
  sym := fun u v w ⟨i, p, e, hw, h⟩ => ⟨i, p, e, hw, h.elim (fun z => .inr ⟨z.2, z.1⟩) (fun z => .inl ⟨z.2, z.1⟩)⟩
  step := fun u v w _ ⟨i, p, e, hw, h⟩ => by
    have s := T.step p (List.mem_of_getElem? e) r r0 r1
    rw [hw]
    rcases h with ⟨h1, h2⟩ | ⟨h1, h2⟩ <;> rw [← h1, ← h2]
    · exact s.symm
    · exact s
  par := fun v h ne => by
    obtain ⟨i, p, e, h⟩ := T.par r v r0 r1 h.1 h.2 (Ne.symm ne)
    rcases h with ⟨h1, h2⟩ | ⟨h1, h2⟩
    · exact ⟨p.y, p.l, ⟨i, p, e, rfl, .inl ⟨h1, rfl⟩⟩, h2.symm⟩
    · exact ⟨p.x, p.l, ⟨i, p, e, rfl, .inr ⟨h1, rfl⟩⟩, h2.symm⟩
  uni := fun v u w u' w' h ⟨i, p, e, hw, hp⟩ ⟨j, q, f, hv, hq⟩ h1 h2 => by
    have t1 : Dn ps (d) r v i := ⟨p, e, hp.elim (fun z => .inl ⟨z.1, by rw [z.2, ← hw]; exact h1.symm⟩) (fun z => .inr ⟨z.1, by rw [z.2, ← hw]; exact h1.symm⟩)⟩
    have t2 : Dn ps (d) r v j := ⟨q, f, hq.elim (fun z => .inl ⟨z.1, by rw [z.2, ← hv]; exact h2.symm⟩) (fun z => .inr ⟨z.1, by rw [z.2, ← hv]; exact h2.symm⟩)⟩
    have ij := T.uni r v i j r0 r1 h.1 h.2 t1 t2
    subst ij
    rw [e] at f
    cases f
    have hi : i < ps.length := (List.getElem?_eq_some_iff.mp e).1
    have o := (T.own (i := (i : Int)) (by omega) (by omega)).2.2
    rw [pr_of e] at o
    rcases hp with ⟨a1, a2⟩ | ⟨a1, a2⟩ <;> rcases hq with ⟨b1, b2⟩ | ⟨b1, b2⟩
    · rw [← a2, ← b2]
    · exact absurd (a1.trans b1.symm) o
    · exact absurd (b1.trans a1.symm) o
    · rw [← a2, ← b2]
/-! ### places -/
theorem nm_0 (ps : List Pi) (i : Int) : nm ps i 0 = [(pr ps i).x] := if_pos rfl
theorem nm_l {ps : List Pi} {i : Int} (h : (pr ps i).l ≠ 0) : nm ps i (pr ps i).l = [(pr ps i).y] := (if_neg h).trans (if_pos rfl)
theorem nm_mid {ps : List Pi} {i a : Int} (h : a ≠ 0) (h2 : a ≠ (pr ps i).l) : nm ps i a = [i, a] := (if_neg h).trans (if_neg h2)
theorem nm_two {ps : List Pi} {i a j b : Int} (h : nm ps i a = [j, b]) : i = j ∧ a = b ∧ a ≠ 0 ∧ a ≠ (pr ps i).l := by
  unfold nm at h
  split at h
  · cases h
  · split at h
    · cases h
    · rename_i x y
      cases h
      exact ⟨rfl, rfl, x, y⟩
theorem nm_one {ps : List Pi} {i a t : Int} (h : nm ps i a = [t]) : (a = 0 ∧ (pr ps i).x = t) ∨ (a = (pr ps i).l ∧ (pr ps i).y = t) := by
  unfold nm at h
  split at h
  · rename_i x; cases h; exact .inl ⟨x, rfl⟩
  · split at h
    · rename_i x; cases h; exact .inr ⟨x, rfl⟩
    · cases h
section
variable {n : Int} {ps : List Pi} {d : Int → Int → Int} (T : Tm n ps d)
include T
theorem ok_nm {i a : Int} (h0 : 0 ≤ i) (h1 : i < ps.length) (a0 : 0 ≤ a) (a1 : a ≤ (pr ps i).l) : okP n ps (nm ps i a) := by
  obtain ⟨x0, x1, y0, y1, l1⟩ := T.at h0 h1
  by_cases e : a = 0
  · rw [e, nm_0]; exact ⟨x0, x1⟩
  · by_cases f : a = (pr ps i).l
    · rw [f, nm_l (by omega)]; exact ⟨y0, y1⟩
    · rw [nm_mid e f]; exact ⟨h0, h1, by omega, by omega⟩
theorem Dp_nn {s q : Pl} (hs : okP n ps s) (hq : okP n ps q) : 0 ≤ Dp ps d s q := by
  have drn : ∀ {r i a : Int}, 0 ≤ r → r < n → 0 ≤ i → i < ps.length → 0 ≤ a → a ≤ (pr ps i).l → 0 ≤ dr ps d r i a := fun {r i a} r0 r1 h0 h1 a0 a1 => by
    obtain ⟨x0, x1, y0, y1, l1⟩ := T.at h0 h1
    have e1 := T.nn r0 r1 x0 x1
    have e2 := T.nn r0 r1 y0 y1
    unfold dr; omega
  rcases ok_cases hs with ⟨r, rfl, r0, r1⟩ | ⟨j, b, rfl, k0, k1, b0, b1⟩ <;> rcases ok_cases hq with ⟨t, rfl, t0, t1⟩ | ⟨i, a, rfl, h0, h1, a0, a1⟩
  · exact T.nn r0 r1 t0 t1
  · exact drn r0 r1 h0 h1 (by omega) (by omega)
  · exact drn t0 t1 k0 k1 (by omega) (by omega)
  · obtain ⟨x0, x1, y0, y1, l1⟩ := T.at k0 k1
    have e1 := drn (a := a) x0 x1 h0 h1 (by omega) (by omega)
    have e2 := drn (a := a) y0 y1 h0 h1 (by omega) (by omega)
    show 0 ≤ (if j = i then ab b a else _)
    split
    · unfold ab; split <;> omega
    · omega
theorem Dp_self {s : Pl} (hs : okP n ps s) : Dp ps d s s = 0 := by
  rcases ok_cases hs with ⟨r, rfl, r0, r1⟩ | ⟨j, b, rfl, k0, k1, b0, b1⟩
  · exact T.zero r
  · show (if j = j then ab b b else _) = 0
    rw [if_pos rfl]
    unfold ab; split <;> omega
theorem Dp_par {s : Pl} (hs : okP n ps s) {p : Pl} (hp : okP n ps p) (ne : p ≠ s) : ∃ q, Adj ps p q ∧ Dp ps d s p = Dp ps d s q + 1 := by
  rcases ok_cases hp with ⟨t, rfl, t0, t1⟩ | ⟨i, a, rfl, h0, h1, a0, a1⟩
  · obtain ⟨i, h0, h1, h⟩ := door_ex T hs t0 t1 (Ne.symm ne)
    obtain ⟨f0, f1, _, f⟩ := foot_at T hs h0 h1
    have l1 := (T.at h0 h1).2.2.2.2
    rcases h with ⟨e, g⟩ | ⟨e, g⟩
    · refine ⟨nm ps i 1, ⟨i, 0, h0, h1, by omega, by omega, .inl ⟨by rw [nm_0, e], rfl⟩⟩, ?_⟩
      have e1 := f 0 (by omega) (by omega)
      have e2 := f 1 (by omega) (by omega)
      rw [nm_0, e] at e1
      unfold ab at e1 e2
      split at e1 <;> split at e2 <;> omega
    · refine ⟨nm ps i ((pr ps i).l - 1), ⟨i, (pr ps i).l - 1, h0, h1, by omega, by omega, .inr ⟨rfl, by rw [show (pr ps i).l - 1 + 1 = (pr ps i).l by omega, nm_l (by omega), e]⟩⟩, ?_⟩
      have e1 := f (pr ps i).l (by omega) (by omega)
      have e2 := f ((pr ps i).l - 1) (by omega) (by omega)
      rw [nm_l (by omega), e] at e1
      unfold ab at e1 e2
      split at e1 <;> split at e2 <;> omega
  · obtain ⟨f0, f1, f2, f⟩ := foot_at T hs h0 h1
    have nf : foot ps d s i ≠ a := fun z => ne (by rw [f2 (by omega) (by omega), z])
    have pe : nm ps i a = [i, a] := nm_mid (by omega) (by omega)
    have e1 := f a (by omega) (by omega)
    rw [pe] at e1
    by_cases c : foot ps d s i < a
    · refine ⟨nm ps i (a - 1), ⟨i, a - 1, h0, h1, by omega, by omega, .inr ⟨rfl, by rw [show a - 1 + 1 = a by omega, pe]⟩⟩, ?_⟩
      have e2 := f (a - 1) (by omega) (by omega)
      unfold ab at e1 e2
      split at e1 <;> split at e2 <;> omega
    · refine ⟨nm ps i (a + 1), ⟨i, a, h0, h1, by omega, by omega, .inl ⟨pe.symm, rfl⟩⟩, ?_⟩
      have e2 := f (a + 1) (by omega) (by omega)
      unfold ab at e1 e2
      split at e1 <;> split at e2 <;> omega
/-! a next place of a room, nearer to the source: by which door -/
theorem near_door {s : Pl} (hs : okP n ps s) {t : Int} {q : Pl} (h : Adj ps [t] q) (hd : Dp ps d s [t] = Dp ps d s q + 1) : ∃ i, Door ps d s t i ∧ (((pr ps i).x = t ∧ q = nm ps i 1) ∨ ((pr ps i).y = t ∧ q = nm ps i ((pr ps i).l - 1))) := by
  obtain ⟨i, a, h0, h1, a0, a1, h⟩ := h
  obtain ⟨f0, f1, _, f⟩ := foot_at T hs h0 h1
  have e1 := f a a0 (by omega)
  have e2 := f (a + 1) (by omega) (by omega)
  rcases h with ⟨hp, rfl⟩ | ⟨rfl, hp⟩
  · rw [← hp] at e1
    rcases nm_one hp.symm with ⟨z, ex⟩ | ⟨z, _⟩
    · subst z
      refine ⟨i, ⟨h0, h1, .inl ⟨ex, fun w => ?_⟩⟩, .inl ⟨ex, rfl⟩⟩
      rw [w] at e1 e2
      unfold ab at e1 e2
      split at e1 <;> split at e2 <;> omega
    · omega
  · rw [← hp] at e2
    rcases nm_one hp.symm with ⟨z, _⟩ | ⟨z, ey⟩
    · omega
    · have ea : a = (pr ps i).l - 1 := by omega
      refine ⟨i, ⟨h0, h1, .inr ⟨ey, fun w => ?_⟩⟩, .inr ⟨ey, by rw [ea]⟩⟩
      rw [w] at e1 e2
      unfold ab at e1 e2
      split at e1 <;> split at e2 <;> omega
/-! a next place of a place within a pipe -/
theorem near_mid {i a : Int} (a0 : 1 ≤ a) (a1 : a ≤ (pr ps i).l - 1) {q : Pl} (h : Adj ps [i, a] q) : q = nm ps i (a - 1) ∨ q = nm ps i (a + 1) := by
  obtain ⟨j, b, h0, h1, b0, b1, h⟩ := h
  rcases h with ⟨hp, rfl⟩ | ⟨rfl, hp⟩
  · obtain ⟨e1, e2, _, _⟩ := nm_two hp.symm
    subst e1 e2
    exact .inr rfl
  · obtain ⟨e1, e2, _, _⟩ := nm_two hp.symm
    subst e1
    left
    rw [← e2, show b + 1 - 1 = b by omega]
theorem Dp_uni {s : Pl} (hs : okP n ps s) {p : Pl} (hp : okP n ps p) {q q' : Pl} (h : Adj ps p q) (h' : Adj ps p q') (e : Dp ps d s p = Dp ps d s q + 1) (e' : Dp ps d s p = Dp ps d s q' + 1) : q = q' := by
  rcases ok_cases hp with ⟨t, rfl, t0, t1⟩ | ⟨i, a, rfl, h0, h1, a0, a1⟩
  · obtain ⟨i, d1, c1⟩ := near_door T hs h e
    obtain ⟨i', d2, c2⟩ := near_door T hs h' e'
    have ii := door_uni T hs t0 t1 d1 d2
    subst ii
    have o := (T.own d1.1 d1.2.1).2.2
    rcases c1 with ⟨a1, a2⟩ | ⟨a1, a2⟩ <;> rcases c2 with ⟨b1, b2⟩ | ⟨b1, b2⟩
    · rw [a2, b2]
    · exact absurd (a1.trans b1.symm) o
    · exact absurd (b1.trans a1.symm) o
    · rw [a2, b2]
  · obtain ⟨f0, f1, f2, f⟩ := foot_at T hs h0 h1
    have pe : nm ps i a = [i, a] := nm_mid (by omega) (by omega)
    have g1 := f a (by omega) (by omega)
    have g2 := f (a - 1) (by omega) (by omega)
    have g3 := f (a + 1) (by omega) (by omega)
    rw [pe] at g1
    rcases near_mid T a0 a1 h with rfl | rfl <;> rcases near_mid T a0 a1 h' with rfl | rfl
    · rfl
    · unfold ab at g1 g2 g3; split at g1 <;> split at g2 <;> split at g3 <;> omega
    · unfold ab at g1 g2 g3; split at g1 <;> split at g2 <;> split at g3 <;> omega
    · rfl
theorem ok_adj {p q : Pl} (h : Adj ps p q) : okP n ps q := by
  obtain ⟨i, a, h0, h1, a0, a1, h⟩ := h
  rcases h with ⟨_, rfl⟩ | ⟨rfl, _⟩
  · exact ok_nm T h0 h1 (by omega) (by omega)
  · exact ok_nm T h0 h1 (by omega) (by omega)
theorem Tm.places {s : Pl} (hs : okP n ps s) : Sr s (okP n ps) (Dp ps d s) (fun p q w => Adj ps p q ∧ w = 1) where
  zero := Dp_self T hs
  here := hs
  nn := fun v h => Dp_nn T hs h
  wt := fun u v w _ h => by rw [h.2]; exact Int.le_refl 1
  cl := fun u v w _ h => ok_adj T h.1
  sym := fun u v w h => ⟨h.1.symm, h.2⟩
  step := fun u v w _ h => by rw [h.2]; exact Dp_step T hs h.1
  par := fun v hv ne => by
    obtain ⟨q, h1, h2⟩ := Dp_par T hs hv ne
    exact ⟨q, 1, ⟨h1, rfl⟩, h2⟩
  uni := fun v u w u' w' hv h h' e e' => by
    rw [h.2] at e
    rw [h'.2] at e'
    exact Dp_uni T hs hv h.1 h'.1 e e'
end
end Rw

namespace Rw
open PySem PySem.Spec PyProof.Rows L2
theorem walk_enumT {K : PySem.W.Frag} {a : Addr} {xs : List V} : Walk (IteT K a) xs.length (fun H => SqT K H a xs) (YPair (fun i => some (.int (i : Nat))) (fun i => xs[i]?)) := by
  refine ⟨fun i _ hi q => ⟨xs, xs[i], q, by simp [hi]⟩, fun _ q => ⟨xs, q, Nat.le_refl _⟩, fun i H v H' _ q y => ?_⟩
  obtain ⟨T, x, z1, z2, z3, z4⟩ := y
  exact ⟨T, _, x, z1, z2, z3, rfl, z4 xs q⟩
theorem Keep.fr {H J : Hp} {p : Addr} (k : Keep [] H J) (n : J p = none) : H p = none := by
  cases e : H p with
  | none => rfl
  | some o => rw [k p o e List.not_mem_nil] at n; cases n
/-! a house, as the program is given it -/
structure HouseOk (n : Int) (ps : List Pi) : Prop where
  n1 : 1 ≤ n
  n2 : n ≤ 16
  len : (ps.length : Int) = n - 1
  ok : ∀ p ∈ ps, p.ok n
theorem HouseOk.at {n : Int} {ps : List Pi} (h : HouseOk n ps) {i : Nat} (hi : i < ps.length) : (pr ps (i : Int)).ok n ∧ ps[i]? = some (pr ps (i : Int)) := by
  have e := pr_mem (ps := ps) (i := (i : Int)) (by omega) (by omega)
  exact ⟨h.ok _ e.1, by rw [show ((i : Int)).toNat = i by omega] at e; exact e.2⟩
/-! ### the doors of each room -/
def doorRow (ps : List Pi) (r : Int) (j : Nat) : List (List Int) :=
  (if (pr ps (j : Int)).x = r then [[(j : Int), 0, (pr ps (j : Int)).y, (pr ps (j : Int)).l]] else []) ++ (if (pr ps (j : Int)).y = r then [[(j : Int), (pr ps (j : Int)).l, (pr ps (j : Int)).x, 0]] else [])
def doorsTo (ps : List Pi) (r : Int) (i : Nat) : List (List Int) := (List.range i).flatMap (doorRow ps r)
theorem doorsTo_succ (ps : List Pi) (r : Int) (i : Nat) : doorsTo ps r (i + 1) = doorsTo ps r i ++ doorRow ps r i := by
  unfold doorsTo
  rw [List.range_succ, List.flatMap_append]
  simp
/-! lists of rows of ints, each at its own address -/
def Rws (av : List Addr) (G : Hp) (ds : List Addr) (f : Nat → List (List Int)) (m : Nat) : Prop := ∀ (r : Nat) (a : Addr), ds[r]? = some a → ∃ ts, G a = some (.lst ts) ∧ Dts av G ts ((f r).map tupI) ∧ ts.length ≤ m
theorem Rws.new {av : List Addr} {G : Hp} {ds : List Addr} {f : Nat → List (List Int)} {m : Nat} {p : Addr} {o : HO} (h : Rws av G ds f m) (n : G p = none) : Rws av (upd G p o) ds f m := fun r a e => by
  obtain ⟨ts, h1, h2, h3⟩ := h r a e
  exact ⟨ts, by rw [upd_ne (ne_of_none h1 n)]; exact h1, h2.keep (Keep.new n), h3⟩
theorem Rws.less {av av' : List Addr} {G : Hp} {ds : List Addr} {f : Nat → List (List Int)} {m : Nat} (h : Rws av G ds f m) (s : ∀ a ∈ av', a ∈ av) : Rws av' G ds f m := fun r a e => by
  obtain ⟨ts, h1, h2, h3⟩ := h r a e
  exact ⟨ts, h1, h2.less s, h3⟩
theorem nodup_at {ds : List Addr} (nd : ds.Nodup) {r s : Nat} {a : Addr} (h : ds[r]? = some a) (h' : ds[s]? = some a) : r = s := by
  obtain ⟨h1, e1⟩ := List.getElem?_eq_some_iff.mp h
  obtain ⟨h2, e2⟩ := List.getElem?_eq_some_iff.mp h'
  exact (List.getElem_inj nd).mp (e1.trans e2.symm)
theorem dts_ints {av : List Addr} {H : Hp} (ns : List Int) : Dts av H (ns.map V.int) (ns.map PyData.int) := Dts.ints ns
theorem Rws.put {av : List Addr} {G : Hp} {ds : List Addr} {f : Nat → List (List Int)} {m : Nat} (h : Rws av G ds f m) (sub : ∀ a ∈ ds, a ∈ av) (nd : ds.Nodup) (tr : Tr av G) {r0 : Nat} {a0 t : Addr} {ts0 : List V} {ns : List Int} (e0 : ds[r0]? = some a0) (g0 : G a0 = some (.lst ts0)) (nt : G t = none) :
    Rws av (upd (upd G t (.tup (ns.map V.int))) a0 (.lst (ts0 ++ [.ref t]))) ds (fun r => if r = r0 then f r ++ [ns] else f r) (m + 1) := fun r a e => by
  have m0 : a0 ∈ av := sub a0 (List.mem_of_getElem? e0)
  obtain ⟨ts, h1, h2, h3⟩ := h r a e
  have h2' : Dts av (upd (upd G t (.tup (ns.map V.int))) a0 (.lst (ts0 ++ [.ref t]))) ts ((f r).map tupI) := (h2.keep (Keep.new nt)).keep (Keep.put m0)
  by_cases c : r = r0
  · subst c
    rw [e] at e0; cases e0
    rw [h1] at g0; cases g0
    refine ⟨ts0 ++ [.ref t], upd_same, ?_, by rw [List.length_append, List.length_singleton]; omega⟩
    show Dts _ _ _ (List.map tupI (if r = r then f r ++ [ns] else f r))
    rw [if_pos rfl, List.map_append]
    have nta : t ≠ a0 := (ne_of_none h1 nt).symm
    exact Dts.app h2' (.cons (.tup (tr.not nt) (by rw [upd_ne nta]; exact upd_same) (Dts.ints ns)) .nil)
  · have ne : a ≠ a0 := fun z => by subst z; exact c (nodup_at nd e e0)
    refine ⟨ts, by rw [upd_ne ne, upd_ne (ne_of_none h1 nt)]; exact h1, ?_, by omega⟩
    show Dts _ _ _ (List.map tupI (if r = r0 then f r ++ [ns] else f r))
    rw [if_neg c]; exact h2'
section
variable {P : Program} {w : World} {K : PySem.W.Frag} {mg : Str → Option Value} {base : Heap}
abbrev sDoors : Stmt := topS 2
abbrev nDoors : List Str := ["house", "rooms", "pipes", "room", "doors", "number", "pipe", "one", "other", "length"]
theorem scDoors : FnScope nDoors ["house"] (defScope sDoors) := ⟨rfl, rfl, rfl, by decide +kernel, rfl, by decide +kernel, by decide +kernel⟩
def spDoors : Sp := fun vs H Q _ => ∃ (h : V) (n : Int) (ps : List Pi) (av : List Addr), vs = [h] ∧ Dt av H h (houseD n (ps.map Pi.dat)) ∧ HouseOk n ps ∧ Tr av H ∧
  ∀ (H' : Hp) (Dl : Addr) (ds : List Addr), Keep [] H H' → H Dl = none → Dl ∉ av → (∀ a ∈ ds, a ∉ av) → Tr av H' → H' Dl = some (.lst (ds.map V.ref)) → (ds.length : Int) = n → Rws av H' ds (fun r => doorsTo ps (r : Int) ps.length) 100 → Q (.ref Dl) H'
theorem ok_doors (h : Has K mg "doors_of" sDoors) (B : Blt mg) : Can P w K mg base "doors_of" ["house"] 1 spDoors := by
  obtain ⟨f, fd, F, g⟩ := h
  refine ⟨f, fd, F.ok (k := 0) scDoors (fun vs H Q E h => ?_) (fun cdv A outer s H vs Q E hr h => ?_), g, F.kp, F.binds fun _ _ _ _ _ _ us hl => match us, hl with | [_], _ => rfl⟩
  · obtain ⟨h, n, ps, av, rfl, _⟩ := h
    rfl
  · obtain ⟨h, n, ps, av, rfl, hh, hk, tr, q⟩ := h
    have n1 := hk.n1
    have n2 := hk.n2
    have ln := hk.len
    refine ⟨_, pss_cons (ps_asg (pv 0) (pg_tup (by rfl) (pgs_cons (pg_name (i := 1) scDoors.nd rfl (by first | exact Or.inl rfl | exact Or.inr rfl)) (pgs_cons (pg_name (i := 2) scDoors.nd rfl (by first | exact Or.inl rfl | exact Or.inr rfl)) pgs_nil))))
      (pss_cons (ps_setLc (i := 4) (own := [("room", 3)]) (g := gName 3) (tt := tYes) rfl scDoors.nd rfl rfl (sw_true rfl rfl rfl (by decide +kernel)) (pi_range1 (by rfl) B.range_ (pa_cons (pv 1) pa_nil)) (blkOk_by (N := nDoors) (sc := defScope sDoors) (by decide +kernel)) (fun _ _ _ _ _ => (pg_name (i := 3) scDoors.nd rfl (by first | exact Or.inl rfl | exact Or.inr rfl))) (fun _ _ _ _ _ => pts_nil) (fun _ _ _ _ _ => (pe_lst pa_nil)))
      (pss_cons (ps_for PassesOwn.never rfl (pi_enumT (by rfl) B.enum_ (pa_cons (pv 2) pa_nil)) (pg_tup (by rfl) (pgs_cons (pg_name (i := 5) scDoors.nd rfl (by first | exact Or.inl rfl | exact Or.inr rfl)) (pgs_cons (pg_name (i := 6) scDoors.nd rfl (by first | exact Or.inl rfl | exact Or.inr rfl)) pgs_nil)))
      (pss_cons (ps_asg (pe_slice sl_tup (pv 6) po_none (po_some pe_int)) (pg_tup (by rfl) (pgs_cons (pg_name (i := 7) scDoors.nd rfl (by first | exact Or.inl rfl | exact Or.inr rfl)) (pgs_cons (pg_name (i := 8) scDoors.nd rfl (by first | exact Or.inl rfl | exact Or.inr rfl)) (pgs_cons (pg_name (i := 9) scDoors.nd rfl (by first | exact Or.inl rfl | exact Or.inr rfl)) pgs_nil)))))
      (pss_cons (ps_expr (pe_bm PySem.F.plainAttrs_list PySem.F.slot_list_append PySem.F.type_list_append mt_append (pe_ix ix_list (pv 4) (pv 7) (fun _ _ => rfl)) (pa_cons (pe_tup (pa_cons (pv 5) (pa_cons pe_int (pa_cons (pv 8) (pa_cons (pv 9) pa_nil))))) pa_nil)))
      (pss_one (ps_expr (pe_bm PySem.F.plainAttrs_list PySem.F.slot_list_append PySem.F.type_list_append mt_append (pe_ix ix_list (pv 4) (pv 8) (fun _ _ => rfl)) (pa_cons (pe_tup (pa_cons (pv 5) (pa_cons (pv 9) (pa_cons (pv 7) (pa_cons pe_int pa_nil))))) pa_nil)))))))
      (pss_one (ps_ret (pv 4))))), ?_⟩
    obtain ⟨ah, ap, xp, rfl, na, ea, nb, eb, db⟩ := house_parts hh
    refine ⟨.ref ah, rfl, ah, [.int n, .ref ap], rfl, SqT.of ea, rfl, _, _, rfl, _, [], rfl, rfl, ?_⟩
    -- a list of empty lists
    refine ⟨.int n, rfl, n, rfl, by omega, by omega, fun Dl nD => ?_⟩
    refine lc_range (lo := 0) (n := n.toNat) (fun i J => Keep [] H J ∧ ∃ ds : List Addr, ds.length = i ∧ ds.Nodup ∧ (∀ a ∈ ds, H a = none ∧ J a = some (.lst [])) ∧ Dl ∉ ds ∧ J Dl = some (.lst (ds.map V.ref)))
      ⟨Keep.new nD, [], rfl, List.nodup_nil, fun _ z => absurd z List.not_mem_nil, List.not_mem_nil, upd_same⟩ (fun i J hi p => ?_) (fun J p => ?_)
    · obtain ⟨k1, ds, l1, nd, al, nl, eD⟩ := p
      refine ⟨rfl, show 0 ≤ sizeLine by decide, fun p np => ⟨ds.map V.ref, ?_, ?_, ?_, ds ++ [p], ?_, ?_, ?_, ?_, ?_⟩⟩
      · rw [upd_ne (ne_of_none eD np)]; exact eD
      · rw [List.length_map, l1]; exact small1000 (by omega)
      · exact (k1.trans (Keep.new np)).upd nD
      · rw [List.length_append, l1]; rfl
      · refine List.nodup_append.mpr ⟨nd, by simp, fun a ha b hb e => ?_⟩
        rw [List.mem_singleton.mp hb] at e
        rw [e] at ha
        rw [(al p ha).2] at np; cases np
      · intro a ha
        have npD : p ≠ Dl := (ne_of_none eD np).symm
        rcases List.mem_append.mp ha with ha | ha
        · have e := al a ha
          have na' : a ≠ Dl := fun z => nl (z ▸ ha)
          exact ⟨e.1, by rw [upd_ne na', upd_ne (ne_of_none e.2 np)]; exact e.2⟩
        · rw [List.mem_singleton.mp ha]
          exact ⟨k1.fr np, by rw [upd_ne npD]; exact upd_same⟩
      · intro m
        rcases List.mem_append.mp m with m | m
        · exact nl m
        · exact (ne_of_none eD np) (List.mem_singleton.mp m)
      · rw [upd_same, List.map_append]; rfl
    · obtain ⟨k1, ds, l1, nd, al, nl, eD⟩ := p
      have fD : H Dl = none := nD
      have trJ : Tr (Dl :: ds ++ av) J := fun a m => by
        rcases List.mem_append.mp m with m | m
        · rcases List.mem_cons.mp m with m | m
          · rw [m]; exact ⟨_, eD⟩
          · exact ⟨_, (al a m).2⟩
        · obtain ⟨o, e⟩ := tr a m
          exact ⟨o, k1 a o e List.not_mem_nil⟩
      have ebJ := k1 ap _ eb List.not_mem_nil
      refine ⟨.ref ap, rfl, ap, xp, rfl, SqT.of ebJ, for_it (walk_enumT (K := K) (a := ap) (xs := xp))
        (fun i σ G => ∃ s3 s5 s6 s7 s8 s9, σ = [some (.ref ah), some (.int n), some (.ref ap), s3, some (.ref Dl), s5, s6, s7, s8, s9] ∧ Keep [] H G ∧ Tr (Dl :: ds ++ av) G ∧ G Dl = some (.lst (ds.map V.ref)) ∧ Rws (Dl :: ds ++ av) G ds (fun r => doorsTo ps (r : Int) i) (2 * i))
        ⟨_, _, _, _, _, _, rfl, k1, trJ, eD, fun r a e => ⟨[], (al a (List.mem_of_getElem? e)).2, .nil, Nat.zero_le _⟩⟩ (fun i σ G _ p => ?_) (fun i x σ G G' hi p y => ?_) (fun σ G p => ?_)⟩
      · obtain ⟨_, _, _, _, _, _, _, kG, _⟩ := p
        exact SqT.of (kG ap _ eb List.not_mem_nil)
      · obtain ⟨s3, s5, s6, s7, s8, s9, rfl, kG, tG, eG, rG⟩ := p
        obtain ⟨T0, x1, y1, rfl, nT, rfl, hx1, hy1⟩ := y
        cases hx1
        have xl : xp.length = ps.length := by rw [db.len, List.length_map]
        have hi' : i < ps.length := by omega
        obtain ⟨pok, pg⟩ := hk.at hi'
        have dbG := db.keep (kG.of)
        obtain ⟨pp, pa, T1, T2, _, gp, ga, epa⟩ := pi_at dbG (i := (i : Int)) (by omega) (by omega)
        have epp : pp = pr ps (i : Int) := by
          rw [show ((i : Int)).toNat = i by omega, pg] at gp
          exact (Option.some.inj gp).symm
        subst epp
        have ey1 : y1 = .ref pa := by
          have w : atI xp (i : Int) = some y1 := atI_nat hy1
          rw [w] at ga; exact Option.some.inj ga
        subst ey1
        obtain ⟨X, hX⟩ : ∃ X, (pr ps (i : Int)).x = X := ⟨_, rfl⟩
        obtain ⟨Y, hY⟩ : ∃ X, (pr ps (i : Int)).y = X := ⟨_, rfl⟩
        obtain ⟨L, hL⟩ : ∃ X, (pr ps (i : Int)).l = X := ⟨_, rfl⟩
        have p1 := pok.x0; have p2 := pok.x1; have p3 := pok.y0; have p4 := pok.y1; have p5 := pok.xy
        rw [hX] at p1 p2 p5; rw [hY] at p3 p4 p5
        rw [hX, hY, hL] at epa
        refine ⟨T0, [.int (i : Nat), .ref pa], rfl, SqT.of upd_same, rfl, _, _, rfl, _, [], rfl, rfl, ?_⟩
        have npa : pa ≠ T0 := ne_of_none epa nT
        refine ⟨.ref pa, rfl, 3, rfl, pa, [.int X, .int Y, .int L, .ref T1, .ref T2], rfl, SqT.of (show (upd G T0 _) pa = _ by rw [upd_ne npa]; exact epa), show ¬ (HT.sIx 5 0 none = 0 ∧ HT.sIx 5 5 (some 3) = 5) by decide +kernel, fun T3 nT3 => ?_⟩
        refine ⟨T3, [.int X, .int Y, .int L], rfl, SqT.of (upd_same.trans (congrArg some (congrArg HO.tup (cut_to _ 3)))), rfl, _, _, rfl, _, _, rfl, _, [], rfl, rfl, ?_⟩
        rw [show cutV [V.int X, .int Y, .int L, .ref T1, .ref T2] none (some 3) = [.int X, .int Y, .int L] from cut_to _ 3]
        have kJ : Keep [] H (upd (upd G T0 (.tup [.int (i : Nat), .ref pa])) T3 (.tup [.int X, .int Y, .int L])) := kG.trans ((Keep.new nT).trans (Keep.new nT3))
        have tJ : Tr (Dl :: ds ++ av) (upd (upd G T0 (.tup [.int (i : Nat), .ref pa])) T3 (.tup [.int X, .int Y, .int L])) := (tG.upd).upd
        have eJ : (upd (upd G T0 (.tup [.int (i : Nat), .ref pa])) T3 (.tup [.int X, .int Y, .int L])) Dl = some (.lst (ds.map V.ref)) := Keep.new (av := []) nT3 _ _ (Keep.new (av := []) nT _ _ eG List.not_mem_nil) List.not_mem_nil
        have rJ := (rG.new (o := .tup [.int (i : Nat), .ref pa]) nT).new (o := .tup [.int X, .int Y, .int L]) nT3
        generalize upd (upd G T0 (.tup [.int (i : Nat), .ref pa])) T3 (.tup [.int X, .int Y, .int L]) = J2 at kJ tJ eJ rJ ⊢
        have dl : ds.length = n.toNat := l1
        obtain ⟨a, ga⟩ : ∃ a, ds[X.toNat]? = some a := ⟨_, List.getElem?_eq_getElem (by omega)⟩
        obtain ⟨b, gb⟩ : ∃ b, ds[Y.toNat]? = some b := ⟨_, List.getElem?_eq_getElem (by omega)⟩
        obtain ⟨ts, e1, e2, e3⟩ := rJ X.toNat a ga
        have sub : ∀ z ∈ ds, z ∈ Dl :: ds ++ av := fun z m => List.mem_append_left _ (List.mem_cons_of_mem _ m)
        have aD : a ≠ Dl := fun z => nl (z ▸ List.mem_of_getElem? ga)
        have bD : b ≠ Dl := fun z => nl (z ▸ List.mem_of_getElem? gb)
        refine ⟨.ref Dl, rfl, .int X, rfl, Dl, _, X, .ref a, rfl, rfl, SqL.of eJ, atI_of p1 (by rw [List.getElem?_map, ga]; rfl), .inl ⟨rfl, _, SqL.of e1⟩, .int (i : Nat), rfl, .int Y, rfl, .int L, rfl, show 4 ≤ sizeLine by decide, fun t nt => ?_⟩
        have at1 : (upd J2 t (.tup [.int (i : Nat), .int 0, .int Y, .int L])) a = some (.lst ts) := by rw [upd_ne (ne_of_none e1 nt)]; exact e1
        refine ⟨a, ts, .ref t, rfl, rfl, at1, Nat.lt_of_le_of_lt e3 (small1000 (by omega)), ?_⟩
        have rK := rJ.put sub nd tJ (ns := [(i : Int), 0, Y, L]) ga e1 nt
        have ha : H a = none := (al a (List.mem_of_getElem? ga)).1
        have hb : H b = none := (al b (List.mem_of_getElem? gb)).1
        have kK : Keep [] H (upd (upd J2 t (.tup [.int (i : Nat), .int 0, .int Y, .int L])) a (.lst (ts ++ [.ref t]))) := (kJ.trans (Keep.new nt)).upd ha
        have tK : Tr (Dl :: ds ++ av) (upd (upd J2 t (.tup [.int (i : Nat), .int 0, .int Y, .int L])) a (.lst (ts ++ [.ref t]))) := (tJ.upd).upd
        have eK : (upd (upd J2 t (.tup [.int (i : Nat), .int 0, .int Y, .int L])) a (.lst (ts ++ [.ref t]))) Dl = some (.lst (ds.map V.ref)) := by
          rw [upd_ne aD.symm, upd_ne (ne_of_none eJ nt)]; exact eJ
        have rK' : Rws (Dl :: ds ++ av) (upd (upd J2 t (.tup [.int (i : Nat), .int 0, .int Y, .int L])) a (.lst (ts ++ [.ref t]))) ds (fun r => if r = X.toNat then doorsTo ps (r : Int) i ++ [[(i : Int), 0, Y, L]] else doorsTo ps (r : Int) i) (2 * i + 1) := rK
        generalize upd (upd J2 t (.tup [.int (i : Nat), .int 0, .int Y, .int L])) a (.lst (ts ++ [.ref t])) = J3 at kK tK eK rK' ⊢
        obtain ⟨us, f1, f2, f3⟩ := rK' Y.toNat b gb
        refine ⟨.ref Dl, rfl, .int Y, rfl, Dl, _, Y, .ref b, rfl, rfl, SqL.of eK, atI_of p3 (by rw [List.getElem?_map, gb]; rfl), .inl ⟨rfl, _, SqL.of f1⟩, .int (i : Nat), rfl, .int L, rfl, .int X, rfl, show 4 ≤ sizeLine by decide, fun u nu => ?_⟩
        have at2 : (upd J3 u (.tup [.int (i : Nat), .int L, .int X, .int 0])) b = some (.lst us) := by rw [upd_ne (ne_of_none f1 nu)]; exact f1
        refine ⟨b, us, .ref u, rfl, rfl, at2, Nat.lt_of_le_of_lt f3 (small1000 (by omega)), ?_⟩
        have rM := rK'.put sub nd tK (ns := [(i : Int), L, X, 0]) gb f1 nu
        refine ⟨_, _, _, _, _, _, rfl, (kK.trans (Keep.new nu)).upd hb, (tK.upd).upd, ?_, fun r z gz => ?_⟩
        · rw [upd_ne bD.symm, upd_ne (ne_of_none eK nu)]; exact eK
        · obtain ⟨vs, v1, v2, v3⟩ := rM r z gz
          refine ⟨vs, v1, ?_, by omega⟩
          have er : (if r = Y.toNat then (if r = X.toNat then doorsTo ps (r : Int) i ++ [[(i : Int), 0, Y, L]] else doorsTo ps (r : Int) i) ++ [[(i : Int), L, X, 0]] else (if r = X.toNat then doorsTo ps (r : Int) i ++ [[(i : Int), 0, Y, L]] else doorsTo ps (r : Int) i)) = doorsTo ps (r : Int) (i + 1) := by
            rw [doorsTo_succ]
            unfold doorRow
            rw [hX, hY, hL]
            by_cases c1 : r = X.toNat
            · have c2 : ¬ r = Y.toNat := by omega
              rw [if_neg c2, if_pos c1, if_pos (show X = (r : Int) by omega), if_neg (show ¬ Y = (r : Int) by omega)]; simp
            · by_cases c2 : r = Y.toNat
              · rw [if_pos c2, if_neg c1, if_neg (show ¬ X = (r : Int) by omega), if_pos (show Y = (r : Int) by omega)]; simp
              · rw [if_neg c2, if_neg c1, if_neg (show ¬ X = (r : Int) by omega), if_neg (show ¬ Y = (r : Int) by omega)]; simp
          show Dts _ _ _ (List.map tupI (doorsTo ps (r : Int) (i + 1)))
          rw [← er]; exact v2
      · obtain ⟨s3, s5, s6, s7, s8, s9, rfl, kG, tG, eG, rG⟩ := p
        have xl : xp.length = ps.length := by rw [db.len, List.length_map]
        rw [xl] at rG
        have tv : Tr av G := fun a m => tG a (List.mem_append_right _ m)
        refine ⟨.ref Dl, rfl, q G Dl ds kG fD (tr.not fD) (fun a m => tr.not (al a m).1) tv eG (by omega) ?_⟩
        intro r a e
        obtain ⟨ts, h1, h2, h3⟩ := rG r a e
        exact ⟨ts, h1, h2.less fun z m => List.mem_append_right _ m, by omega⟩
end
end Rw

namespace Rw
open PySem PySem.Spec PyProof.Rows L2
/-! ### how far all rooms lie from one -/
theorem pigeon : ∀ (n : Nat) (F : List Int), F.Nodup → (∀ t ∈ F, 0 ≤ t ∧ t < n) → F.length ≤ n
  | 0, [], _, _ => Nat.le_refl _
  | 0, t :: _, _, h => by have := h t List.mem_cons_self; omega
  | n + 1, F, nd, h => by
    by_cases m : (n : Int) ∈ F
    · have e := List.length_erase_of_mem m
      have := pigeon n (F.erase (n : Int)) (nd.erase _) (fun t ht => by
        have z := (nd.mem_erase_iff).mp ht
        have := h t z.2
        have := z.1
        omega)
      omega
    · have := pigeon n F nd (fun t ht => by
        have := h t ht
        have : t ≠ n := fun z => m (z ▸ ht)
        omega)
      omega
theorem mem_doors {ps : List Pi} {u : Int} {m : Nat} {row : List Int} : row ∈ doorsTo ps u m ↔ ∃ j : Nat, j < m ∧ (((pr ps (j : Int)).x = u ∧ row = [(j : Int), 0, (pr ps (j : Int)).y, (pr ps (j : Int)).l]) ∨ ((pr ps (j : Int)).y = u ∧ row = [(j : Int), (pr ps (j : Int)).l, (pr ps (j : Int)).x, 0])) := by
  unfold doorsTo
  rw [List.mem_flatMap]
  constructor
  · rintro ⟨j, hj, h⟩
    refine ⟨j, List.mem_range.mp hj, ?_⟩
    unfold doorRow at h
    rcases List.mem_append.mp h with h | h
    · split at h
      · rename_i e; exact .inl ⟨e, List.mem_singleton.mp h⟩
      · cases h
    · split at h
      · rename_i e; exact .inr ⟨e, List.mem_singleton.mp h⟩
      · cases h
  · rintro ⟨j, hj, h⟩
    refine ⟨j, List.mem_range.mpr hj, ?_⟩
    unfold doorRow
    rcases h with ⟨e, h⟩ | ⟨e, h⟩
    · rw [if_pos e, h]; exact List.mem_append_left _ List.mem_cons_self
    · rw [if_pos e, h]; exact List.mem_append_right _ List.mem_cons_self
/-! a row as towards has it: of a room, the door that leads nearer to r -/
def TowRow (ps : List Pi) (d : Int → Int → Int) (r t : Int) (row : List Int) : Prop :=
  ∃ (i : Nat) (p : Pi), ps[i]? = some p ∧ ((row = [(i : Int), 0, p.y, p.l] ∧ p.x = t ∧ d r p.y + p.l = d r t) ∨ (row = [(i : Int), p.l, p.x, 0] ∧ p.y = t ∧ d r p.x + p.l = d r t))
def TowE (av : List Addr) (G : Hp) (kw : List (Key × V)) (F : List Int) (ps : List Pi) (d : Int → Int → Int) (r : Int) : Prop :=
  ∀ t ∈ F, t ≠ r → ∃ (T : Addr) (row : List Int), valV kw (Sum.inl t) = some (.ref T) ∧ T ∉ av ∧ G T = some (.tup (row.map V.int)) ∧ TowRow ps d r t row
theorem TowE.keep {av : List Addr} {G G' : Hp} {kw : List (Key × V)} {F : List Int} {ps : List Pi} {d : Int → Int → Int} {r : Int} (h : TowE av G kw F ps d r) (k : ∀ b xs, G b = some (.tup xs) → G' b = some (.tup xs)) : TowE av G' kw F ps d r := fun t ht nt => by
  obtain ⟨T, row, h1, h2, h3, h4⟩ := h t ht nt
  exact ⟨T, row, h1, h2, k T _ h3, h4⟩
theorem keepTup {G : Hp} {b : Addr} {o u : HO} (e : G b = some o) (ho : ∀ xs, o ≠ .tup xs) : ∀ c xs, G c = some (.tup xs) → (upd G b u) c = some (.tup xs) := fun c xs ec => by
  have : c ≠ b := fun z => by rw [z, e] at ec; exact ho xs (Option.some.inj ec)
  rw [upd_ne this]; exact ec
theorem keepTupN {G : Hp} {b : Addr} {u : HO} (e : G b = none) : ∀ c xs, G c = some (.tup xs) → (upd G b u) c = some (.tup xs) := fun c xs ec => by
  rw [upd_ne (ne_of_none ec e)]; exact ec
def GapsAt (H : Hp) (g : Addr) (n : Int) (d : Int → Int → Int) (r : Int) : Prop := ∃ kvs, H g = some (.dK kvs) ∧ ∀ t, 0 ≤ t → t < n → valV kvs (Sum.inl t) = some (.int (d r t))
def TowAt (av : List Addr) (H : Hp) (w : Addr) (n : Int) (ps : List Pi) (d : Int → Int → Int) (r : Int) : Prop := ∃ kvs, H w = some (.dK kvs) ∧ TowE av H kvs (start n.toNat) ps d r
/-! what was found so far, what waits, but for here what was gone through is closed -/
structure SS (n : Int) (ps : List Pi) (d : Int → Int → Int) (r : Int) (F td ex : List Int) : Prop where
  nd : F.Nodup
  rg : ∀ t ∈ F, 0 ≤ t ∧ t < n
  src : r ∈ F
  sub : ∀ t ∈ td, t ∈ F
  few : td.length ≤ F.length
  par : Pard r (d r) (RE ps) F
  cl : ∀ u ∈ F, u ∉ td → u ∉ ex → ∀ v w, RE ps u v w → v ∈ F
theorem SS.first {n : Int} {ps : List Pi} {d : Int → Int → Int} {r : Int} (r0 : 0 ≤ r) (r1 : r < n) : SS n ps d r [r] [r] [] where
  nd := by simp
  rg := fun t ht => by rw [List.mem_singleton.mp ht]; exact ⟨r0, r1⟩
  src := List.mem_cons_self
  sub := fun t ht => ht
  few := Nat.le_refl _
  par := fun v hv nv => absurd (List.mem_singleton.mp hv) nv
  cl := fun u hu nu => absurd hu nu
theorem SS.pop {n : Int} {ps : List Pi} {d : Int → Int → Int} {r h : Int} {F td : List Int} (S : SS n ps d r F (td ++ [h]) []) : SS n ps d r F td [h] where
  nd := S.nd
  rg := S.rg
  src := S.src
  sub := fun t ht => S.sub t (List.mem_append_left _ ht)
  few := by have := S.few; rw [List.length_append] at this; omega
  par := S.par
  cl := fun u hu n1 n2 => S.cl u hu (fun m => (List.mem_append.mp m).elim n1 n2) List.not_mem_nil
theorem SS.add {n : Int} {ps : List Pi} {d : Int → Int → Int} {r h v w : Int} {F td : List Int} (T : Tm n ps d) (S : SS n ps d r F td [h]) (hh : h ∈ F) (nv : v ∉ F) (e : RE ps h v w) : SS n ps d r (F ++ [v]) (td ++ [v]) [h] ∧ d r v = d r h + w := by
  have rr := S.rg r S.src
  have R := T.rooms rr.1 rr.2
  have dv := R.found S.par hh (S.rg h hh) e nv
  refine ⟨⟨?_, ?_, List.mem_append_left _ S.src, ?_, by have := S.few; rw [List.length_append, List.length_append]; exact Nat.add_le_add_right this _, S.par.snoc hh (R.sym _ _ _ e) dv, ?_⟩, dv⟩
  · refine List.nodup_append.mpr ⟨S.nd, by simp, fun a ha b hb z => ?_⟩
    rw [List.mem_singleton.mp hb] at z
    exact nv (z ▸ ha)
  · intro t ht
    rcases List.mem_append.mp ht with m | m
    · exact S.rg t m
    · rw [List.mem_singleton.mp m]; exact R.cl _ _ _ (S.rg h hh) e
  · intro t ht
    rcases List.mem_append.mp ht with m | m
    · exact List.mem_append_left _ (S.sub t m)
    · exact List.mem_append_right _ m
  · intro u hu n1 n2 x y ex
    rcases List.mem_append.mp hu with m | m
    · exact List.mem_append_left _ (S.cl u m (fun z => n1 (List.mem_append_left _ z)) n2 x y ex)
    · exact absurd (List.mem_append_right _ m) n1
theorem SS.done {n : Int} {ps : List Pi} {d : Int → Int → Int} {r h : Int} {F td : List Int} (S : SS n ps d r F td [h]) (hc : ∀ v w, RE ps h v w → v ∈ F) : SS n ps d r F td [] where
  nd := S.nd
  rg := S.rg
  src := S.src
  sub := S.sub
  few := S.few
  par := S.par
  cl := fun u hu n1 _ v w e => by
    by_cases z : u = h
    · rw [z] at e; exact hc v w e
    · exact S.cl u hu n1 (fun m => z (List.mem_singleton.mp m)) v w e
theorem SS.all {n : Int} {ps : List Pi} {d : Int → Int → Int} {r : Int} {F : List Int} (T : Tm n ps d) (S : SS n ps d r F [] []) {t : Int} (t0 : 0 ≤ t) (t1 : t < n) : t ∈ F := by
  have rr := S.rg r S.src
  exact (T.rooms rr.1 rr.2).all S.src (fun u hu v w e => S.cl u hu List.not_mem_nil List.not_mem_nil v w e) _ t ⟨t0, t1⟩ (Nat.lt_succ_self _)
/-! the dicts: gaps has just what was found -/
def GapE (kg : List (Key × V)) (F : List Int) (d : Int → Int → Int) (r : Int) : Prop := kg.length = F.length ∧ (∀ t ∈ F, valV kg (Sum.inl t) = some (.int (d r t))) ∧ ∀ t, t ∉ F → valV kg (Sum.inl t) = none
theorem GapE.put {kg : List (Key × V)} {F : List Int} {d : Int → Int → Int} {r v : Int} (h : GapE kg F d r) (nv : v ∉ F) : GapE (putK kg (Sum.inl v) (.int (d r v))) (F ++ [v]) d r := by
  obtain ⟨h1, h2, h3⟩ := h
  refine ⟨?_, fun t ht => ?_, fun t ht => ?_⟩
  · rw [putK_new _ (h3 v nv), List.length_append, List.length_append, h1]; rfl
  · rw [valV_put]
    by_cases e : t = v
    · rw [e, if_pos rfl]
    · rw [if_neg (fun z => e (Sum.inl.inj z))]
      rcases List.mem_append.mp ht with m | m
      · exact h2 t m
      · exact absurd (List.mem_singleton.mp m) e
  · rw [valV_put, if_neg (fun z => ht (by rw [Sum.inl.inj z]; exact List.mem_append_right _ List.mem_cons_self))]
    exact h3 t (fun z => ht (List.mem_append_left _ z))
theorem Dts.unints {av : List Addr} {H : Hp} : ∀ {xs : List V} {ns : List Int}, Dts av H xs (ns.map PyData.int) → xs = ns.map V.int
  | _, [], h => by cases h; rfl
  | _, n :: ns, h => by
    cases h with
    | cons h1 h2 => cases h1; rw [Dts.unints h2]; rfl
theorem tupI_at {av : List Addr} {H : Hp} {v : V} {ns : List Int} (h : Dt av H v (tupI ns)) : ∃ a, v = .ref a ∧ a ∉ av ∧ H a = some (.tup (ns.map V.int)) := by
  unfold tupI at h
  cases h with
  | tup n e d => rw [d.unints] at e; exact ⟨_, rfl, n, e⟩
section
variable {P : Program} {w : World} {K : PySem.W.Frag} {mg : Str → Option Value} {base : Heap}
abbrev sSpread : Stmt := topS 3
abbrev nSpread : List Str := ["doors", "room", "gaps", "towards", "todo", "here", "pipe", "at", "beyond", "far"]
theorem scSpread : FnScope nSpread ["doors", "room"] (defScope sSpread) := ⟨rfl, rfl, rfl, by decide +kernel, rfl, by decide +kernel, by decide +kernel⟩
def spSpread : Sp := fun vs H Q _ => ∃ (Dl : Addr) (ds : List Addr) (n r : Int) (ps : List Pi) (d : Int → Int → Int) (av : List Addr), vs = [.ref Dl, .int r] ∧ H Dl = some (.lst (ds.map V.ref)) ∧ (ds.length : Int) = n ∧
  Rws av H ds (fun r => doorsTo ps (r : Int) ps.length) 100 ∧ HouseOk n ps ∧ Tm n ps d ∧ 0 ≤ r ∧ r < n ∧ Tr av H ∧
  ∀ (H' : Hp) (t g w : Addr), Keep [] H H' → Tr av H' → t ∉ av → g ∉ av → w ∉ av → H' t = some (.tup [.ref g, .ref w]) → GapsAt H' g n d r → TowAt av H' w n ps d r → Q (.ref t) H'
theorem ok_spread (h : Has K mg "spread_from" sSpread) (B : Blt mg) : Can P w K mg base "spread_from" ["doors", "room"] 1 spSpread := by
  obtain ⟨f, fd, F, g⟩ := h
  refine ⟨f, fd, F.ok (k := 0) scSpread (fun vs H Q E h => ?_) (fun cdv A outer s H vs Q E hr h => ?_), g, F.kp, F.binds fun _ _ _ _ _ _ us hl => match us, hl with | [_, _], _ => rfl⟩
  · obtain ⟨Dl, ds, n, r, ps, d, av, rfl, _⟩ := h
    rfl
  · obtain ⟨Dl, ds, n, r, ps, d, av, rfl, eD, dl, rw0, hk, T, r0, r1, tr, q⟩ := h
    have n2 := hk.n2
    refine ⟨_, pss_cons (ps_set (i := 2) scSpread.nd rfl (by first | exact Or.inl rfl | exact Or.inr rfl) (pe_disp (pps_cons (pv 1) pe_int pps_nil) (by rfl) (by rfl) (fun z => by cases z) (by decide)))
      (pss_cons (ps_set (i := 3) scSpread.nd rfl (by first | exact Or.inl rfl | exact Or.inr rfl) pe_dnewK)
      (pss_cons (ps_set (i := 4) scSpread.nd rfl (by first | exact Or.inl rfl | exact Or.inr rfl) (pe_lst (pa_cons (pv 1) pa_nil)))
      (pss_cons (ps_while PassesOwn.never (pt_truth (pv 4) (by intro _; rfl))
      (pss_cons (ps_set (i := 5) scSpread.nd rfl (by first | exact Or.inl rfl | exact Or.inr rfl) (pe_bm0 PySem.F.plainAttrs_list PySem.F.slot_list_pop PySem.F.type_list_pop mt_pop (pv 4)))
      (pss_one (ps_for PassesOwn.never rfl (pi_list (pe_ix ix_list (pv 0) (pv 5) (fun _ _ => rfl))) (pg_tup (by rfl) (pgs_cons (pg_name (i := 6) scSpread.nd rfl (by first | exact Or.inl rfl | exact Or.inr rfl)) (pgs_cons (pg_name (i := 7) scSpread.nd rfl (by first | exact Or.inl rfl | exact Or.inr rfl)) (pgs_cons (pg_name (i := 8) scSpread.nd rfl (by first | exact Or.inl rfl | exact Or.inr rfl)) (pgs_cons (pg_name (i := 9) scSpread.nd rfl (by first | exact Or.inl rfl | exact Or.inr rfl)) pgs_nil)))))
      (pss_one (ps_if (pt_cmp (pc_dnotin (hu_of hr) (pv 8) (pv 2))) (pss_cons (ps_dput (hu_of hr) (pv 2) (pv 8) (pe_op op_add (pe_dget (hu_of hr) (pv 2) (pv 5) (fun _ _ => rfl)) (pe_callB call_abs (by rfl) B.abs_ boot_abs (pa_cons (pe_op op_sub (pv 9) (pv 7)) pa_nil))) rfl)
      (pss_cons (ps_dput (hu_of hr) (pv 3) (pv 8) (pe_tup (pa_cons (pv 6) (pa_cons (pv 9) (pa_cons (pv 5) (pa_cons (pv 7) pa_nil))))) rfl)
      (pss_one (ps_expr (pe_bm PySem.F.plainAttrs_list PySem.F.slot_list_append PySem.F.type_list_append mt_append (pv 4) (pa_cons (pv 8) pa_nil)))))) pss_nil))))))
      (pss_one (ps_ret (pe_tup (pa_cons (pv 2) (pa_cons (pv 3) pa_nil)))))))), ?_⟩
    refine fun g ng => ⟨.int r, rfl, upd_same, [(Sum.inl r, .int 0)], rfl, by show 1 ≤ 15; decide, ?_⟩
    have eg0 : (upd (upd H g (.dK [])) g (.dK (mergeK [] [(Sum.inl r, V.int 0)]))) = upd H g (.dK [(Sum.inl r, V.int 0)]) := by rw [upd_upd]; rfl
    rw [eg0]
    refine fun w nw => ?_
    refine ⟨.int r, rfl, show 1 ≤ sizeLine by decide, fun td ntd => ?_⟩
    have ngw : g ≠ w := ne_of_none (upd_same (H := H) (a := g) (o := .dK [(Sum.inl r, V.int 0)])) nw
    have ew0 : (upd (upd H g (.dK [(Sum.inl r, V.int 0)])) w (.dK [])) w = some (.dK []) := upd_same
    have eg1 : (upd (upd H g (.dK [(Sum.inl r, V.int 0)])) w (.dK [])) g = some (.dK [(Sum.inl r, V.int 0)]) := by rw [upd_ne ngw]; exact upd_same
    have ngt : g ≠ td := ne_of_none eg1 ntd
    have nwt : w ≠ td := ne_of_none ew0 ntd
    have k0 : Keep [] H (upd (upd (upd H g (.dK [(Sum.inl r, V.int 0)])) w (.dK [])) td (.lst [.int r])) := (Keep.new ng).trans ((Keep.new nw).trans (Keep.new ntd))
    have fg : H g = none := ng
    have fw : H w = none := (Keep.new (av := []) ng).fr nw
    have ft : H td = none := ((Keep.new (av := []) ng).trans (Keep.new nw)).fr ntd
    refine ⟨fun m σ G => ∃ (F tds : List Int) (kg kw : List (Key × V)) (s5 s6 s7 s8 s9 : Option V), σ = [some (.ref Dl), some (.int r), some (.ref g), some (.ref w), some (.ref td), s5, s6, s7, s8, s9] ∧ Keep [] H G ∧ G g = some (.dK kg) ∧ G w = some (.dK kw) ∧ G td = some (.lst (tds.map V.int)) ∧
      SS n ps d r F tds [] ∧ GapE kg F d r ∧ TowE av G kw F ps d r ∧ kw.length ≤ F.length ∧ m = 2 * (16 - F.length) + tds.length, ⟨_, [r], [r], [(Sum.inl r, .int 0)], [], none, none, none, none, none, rfl, k0, ?_, ?_, upd_same, SS.first r0 r1, ⟨rfl, fun t ht => ?_, fun t ht => ?_⟩, fun t ht nt => absurd (List.mem_singleton.mp ht) nt, Nat.zero_le _, rfl⟩, fun m σ G p => ?_⟩
    · rw [upd_ne ngt]; exact eg1
    · rw [upd_ne nwt]; exact ew0
    · rw [List.mem_singleton.mp ht, T.zero]; exact valV_pos rfl
    · rw [valV_neg (fun z => ht (List.mem_singleton.mpr (Sum.inl.inj z).symm))]; rfl
    · obtain ⟨F, tds, kg, kw, s5, s6, s7, s8, s9, rfl, kG, eg, ew, et, S, ge, te, kl, rfl⟩ := p
      refine ⟨.ref td, rfl, _, .inl ⟨_, SqL.of et, rfl⟩, ?_⟩
      rcases List.eq_nil_or_concat tds with rfl | ⟨tl, hh, etl⟩
      · -- none waits
        rw [if_neg (show ¬ (!(([] : List Int).map V.int).isEmpty) = true by simp)]
        refine ⟨.ref g, rfl, .ref w, rfl, show 2 ≤ sizeLine by decide, fun t nt => ?_⟩
        have kN : Keep [] H (upd G t (.tup [.ref g, .ref w])) := kG.trans (Keep.new nt)
        refine q _ t g w kN (fun a m => ?_) (tr.not (kG.fr nt)) (tr.not fg) (tr.not fw) upd_same ⟨kg, ?_, fun u u0 u1 => ge.2.1 u (S.all T u0 u1)⟩ ⟨kw, ?_, fun u hu nu => ?_⟩
        · obtain ⟨o, e⟩ := tr a m
          exact ⟨o, kN a o e List.not_mem_nil⟩
        · rw [upd_ne (ne_of_none eg nt)]; exact eg
        · rw [upd_ne (ne_of_none ew nt)]; exact ew
        · have hu' := start_mem.mp hu
          exact te.keep (keepTupN nt) u (S.all T hu'.1 (by omega)) nu
      · rw [List.concat_eq_append] at etl
        subst etl
        rw [if_pos (show (!((tl ++ [hh]).map V.int).isEmpty) = true by simp)]
        have hF : hh ∈ F := S.sub hh (List.mem_append_right _ List.mem_cons_self)
        have hhr := S.rg hh hF
        have Fl := pigeon 16 F S.nd (fun t ht => by have := S.rg t ht; omega)
        rw [List.map_append] at et
        refine ⟨fun σ' G' => ∃ m', m' < 2 * (16 - F.length) + (tl ++ [hh]).length ∧ ∃ (F tds : List Int) (kg kw : List (Key × V)) (s5 s6 s7 s8 s9 : Option V), σ' = [some (.ref Dl), some (.int r), some (.ref g), some (.ref w), some (.ref td), s5, s6, s7, s8, s9] ∧ Keep [] H G' ∧ G' g = some (.dK kg) ∧ G' w = some (.dK kw) ∧ G' td = some (.lst (tds.map V.int)) ∧
          SS n ps d r F tds [] ∧ GapE kg F d r ∧ TowE av G' kw F ps d r ∧ kw.length ≤ F.length ∧ m' = 2 * (16 - F.length) + tds.length, fun σ' G' h => h, ?_⟩
        refine ⟨.ref td, rfl, .inl ⟨rfl, _, SqL.of et⟩, td, _, .int hh, rfl, rfl, et, by simp, ?_⟩
        have edl : (tl.map V.int ++ [hh].map V.int).dropLast = tl.map V.int := by simp
        rw [edl]
        have kG2 : Keep [] H (upd G td (.lst (tl.map V.int))) := kG.upd ft
        have eg2 : (upd G td (.lst (tl.map V.int))) g = some (.dK kg) := by rw [upd_ne ngt]; exact eg
        have ew2 : (upd G td (.lst (tl.map V.int))) w = some (.dK kw) := by rw [upd_ne nwt]; exact ew
        have et2 : (upd G td (.lst (tl.map V.int))) td = some (.lst (tl.map V.int)) := upd_same
        have te2 := te.keep (keepTup (u := .lst (tl.map V.int)) et (fun xs z => by cases z))
        generalize upd G td (.lst (tl.map V.int)) = G2 at kG2 eg2 ew2 et2 te2 ⊢
        obtain ⟨a, ga⟩ : ∃ a, ds[hh.toNat]? = some a := ⟨_, List.getElem?_eq_getElem (by omega)⟩
        obtain ⟨ts, ea, da, la⟩ := rw0 hh.toNat a ga
        have eh : ((hh.toNat : Nat) : Int) = hh := by omega
        have da' : Dts av H ts ((doorsTo ps hh ps.length).map tupI) := by
          have z : Dts av H ts ((doorsTo ps ((hh.toNat : Nat) : Int) ps.length).map tupI) := da
          rw [eh] at z; exact z
        have S2 := S.pop
        refine ⟨.ref Dl, rfl, .int hh, rfl, Dl, _, hh, .ref a, rfl, rfl, SqL.of (kG2 Dl _ eD List.not_mem_nil), atI_of hhr.1 (by rw [List.getElem?_map, ga]; rfl), a, rfl, ⟨_, SqL.of (kG2 a _ ea List.not_mem_nil)⟩, ?_⟩
        refine for_list (K := K) (a := a) (xs := ts) (fun j σ J => ∃ (F' tds' : List Int) (kg kw : List (Key × V)) (s6 s7 s8 s9 : Option V), σ = [some (.ref Dl), some (.int r), some (.ref g), some (.ref w), some (.ref td), some (.int hh), s6, s7, s8, s9] ∧ Keep [] H J ∧ J g = some (.dK kg) ∧ J w = some (.dK kw) ∧ J td = some (.lst (tds'.map V.int)) ∧
          SS n ps d r F' tds' [hh] ∧ hh ∈ F' ∧ GapE kg F' d r ∧ TowE av J kw F' ps d r ∧ kw.length ≤ F'.length ∧ 2 * (16 - F'.length) + tds'.length ≤ 2 * (16 - F.length) + tl.length ∧ ∀ row ∈ (doorsTo ps hh ps.length).take j, row.getD 2 0 ∈ F')
          ⟨F, tl, kg, kw, _, _, _, _, rfl, kG2, eg2, ew2, et2, S2, hF, ge, te2, kl, Nat.le_refl _, fun row z => by simp at z⟩ (fun j σ J _ p => ?_) (fun j x σ J hx p => ?_) (fun σ J p => ?_)
        · obtain ⟨_, _, _, _, _, _, _, _, _, kJ, _⟩ := p
          exact SqL.of (kJ a _ ea List.not_mem_nil)
        · obtain ⟨F', tds', kg, kw, s6, s7, s8, s9, rfl, kJ, eg, ew, et, SJ, hF', ge, te, kl, ms, al⟩ := p
          obtain ⟨dd, gd, dx⟩ := (da'.keep kJ.of).getv j hx
          rw [List.getElem?_map] at gd
          obtain ⟨row, grow, rfl⟩ := Option.map_eq_some_iff.mp gd
          obtain ⟨i, il, hrow⟩ := mem_doors.mp (List.mem_of_getElem? grow)
          have pg := (hk.at il).2
          have pl := (hk.at il).1.fit.l1
          obtain ⟨ia, at', v, far, L, erow, hRE, habs, htow⟩ : ∃ ia at' v far L : Int, row = [ia, at', v, far] ∧ RE ps hh v L ∧ (if far - at' < 0 then -(far - at') else far - at') = L ∧ (d r v = d r hh + L → TowRow ps d r v [ia, far, hh, at']) := by
            rcases hrow with ⟨e, h⟩ | ⟨e, h⟩
            · exact ⟨_, _, _, _, _, h, ⟨i, _, pg, rfl, .inl ⟨e, rfl⟩⟩, by split <;> omega, fun z => ⟨i, _, pg, .inr ⟨by rw [e], rfl, by rw [e]; exact z.symm⟩⟩⟩
            · exact ⟨_, _, _, _, _, h, ⟨i, _, pg, rfl, .inr ⟨e, rfl⟩⟩, by split <;> omega, fun z => ⟨i, _, pg, .inl ⟨by rw [e], rfl, by rw [e]; exact z.symm⟩⟩⟩
          subst erow
          obtain ⟨Ta, rfl, nTa, eTa⟩ := tupI_at dx
          have tk : (doorsTo ps hh ps.length).take (j + 1) = (doorsTo ps hh ps.length).take j ++ [[ia, at', v, far]] := by rw [List.take_add_one, grow]; rfl
          refine ⟨Ta, [.int ia, .int at', .int v, .int far], rfl, SqT.of eTa, rfl, _, _, rfl, _, _, rfl, _, _, rfl, _, [], rfl, rfl, ?_⟩
          refine ⟨.int v, rfl, .ref g, rfl, g, _, rfl, DGet.k (k := Sum.inl v) eg, _, rfl, ?_⟩
          by_cases hv : v ∈ F'
          · rw [ge.2.1 v hv]
            refine iteF ?_
            refine ⟨F', tds', kg, kw, _, _, _, _, rfl, kJ, eg, ew, et, SJ, hF', ge, te, kl, ms, fun row hrow => ?_⟩
            rw [tk] at hrow
            rcases List.mem_append.mp hrow with m | m
            · exact al row m
            · rw [List.mem_singleton.mp m]; exact hv
          · rw [ge.2.2 v hv]
            refine iteT ?_
            obtain ⟨SN, dv⟩ := SJ.add T hF' hv hRE
            have Fl' := pigeon 16 (F' ++ [v]) SN.nd (fun t ht => by have := SN.rg t ht; omega)
            rw [List.length_append, List.length_singleton] at Fl'
            have kgl : kg.length < sizeLine := by rw [ge.1]; exact Nat.lt_of_lt_of_le (by omega : F'.length < 1000) (small1000 (by omega))
            refine ⟨.ref g, rfl, .int hh, rfl, g, .int (d r hh), rfl, by rw [← ge.2.1 hh hF']; exact DGet.k (k := Sum.inl hh) eg, .int far, rfl, .int at', rfl, far, at', rfl, rfl, far - at', rfl, d r hh, _, rfl, rfl, .ref g, rfl, .int v, rfl, g, _, rfl, (show DPut J g (.int v) (.int (d r hh + (if far - at' < 0 then -(far - at') else far - at'))) _ from DPut.k (k := Sum.inl v) eg kgl), ?_⟩
            rw [habs, ← dv]
            have ew1 : (upd J g (.dK (putK kg (Sum.inl v) (.int (d r v))))) w = some (.dK kw) := by rw [upd_ne ngw.symm]; exact ew
            have et1 : (upd J g (.dK (putK kg (Sum.inl v) (.int (d r v))))) td = some (.lst (tds'.map V.int)) := by rw [upd_ne ngt.symm]; exact et
            have eg1 : (upd J g (.dK (putK kg (Sum.inl v) (.int (d r v))))) g = some (.dK (putK kg (Sum.inl v) (.int (d r v)))) := upd_same
            have te1 := te.keep (keepTup (u := .dK (putK kg (Sum.inl v) (.int (d r v)))) eg (fun xs z => by cases z))
            have k1 : Keep [] H (upd J g (.dK (putK kg (Sum.inl v) (.int (d r v))))) := kJ.upd fg
            have ge1 := ge.put hv
            generalize upd J g (.dK (putK kg (Sum.inl v) (.int (d r v)))) = J1 at ew1 et1 eg1 te1 k1 ⊢
            refine ⟨.int ia, rfl, .int far, rfl, .int hh, rfl, .int at', rfl, show 4 ≤ sizeLine by decide, fun Tn nTn => ?_⟩
            have kwl : kw.length < sizeLine := Nat.lt_of_lt_of_le (by omega : kw.length < 1000) (small1000 (by omega))
            have ew2 : (upd J1 Tn (.tup [.int ia, .int far, .int hh, .int at'])) w = some (.dK kw) := by rw [upd_ne (ne_of_none ew1 nTn)]; exact ew1
            refine ⟨.ref w, rfl, .int v, rfl, w, _, rfl, DPut.k (k := Sum.inl v) ew2 kwl, ?_⟩
            have nTw : Tn ≠ w := (ne_of_none ew1 nTn).symm
            have et3 : (upd (upd J1 Tn (.tup [.int ia, .int far, .int hh, .int at'])) w (.dK (putK kw (Sum.inl v) (.ref Tn)))) td = some (.lst (tds'.map V.int)) := by rw [upd_ne nwt.symm, upd_ne (ne_of_none et1 nTn)]; exact et1
            have eg3 : (upd (upd J1 Tn (.tup [.int ia, .int far, .int hh, .int at'])) w (.dK (putK kw (Sum.inl v) (.ref Tn)))) g = some (.dK (putK kg (Sum.inl v) (.int (d r v)))) := by rw [upd_ne ngw, upd_ne (ne_of_none eg1 nTn)]; exact eg1
            have ew3 : (upd (upd J1 Tn (.tup [.int ia, .int far, .int hh, .int at'])) w (.dK (putK kw (Sum.inl v) (.ref Tn)))) w = some (.dK (putK kw (Sum.inl v) (.ref Tn))) := upd_same
            have eT3 : (upd (upd J1 Tn (.tup [.int ia, .int far, .int hh, .int at'])) w (.dK (putK kw (Sum.inl v) (.ref Tn)))) Tn = some (.tup ([ia, far, hh, at'].map V.int)) := by rw [upd_ne nTw]; exact upd_same
            have te3 := (te1.keep (keepTupN (u := .tup [.int ia, .int far, .int hh, .int at']) nTn)).keep (keepTup (u := .dK (putK kw (Sum.inl v) (.ref Tn))) ew2 (fun xs z => by cases z))
            have k3 : Keep [] H (upd (upd J1 Tn (.tup [.int ia, .int far, .int hh, .int at'])) w (.dK (putK kw (Sum.inl v) (.ref Tn)))) := (k1.trans (Keep.new nTn)).upd fw
            have nTav : Tn ∉ av := tr.not (k1.fr nTn)
            generalize upd (upd J1 Tn (.tup [.int ia, .int far, .int hh, .int at'])) w (.dK (putK kw (Sum.inl v) (.ref Tn))) = J3 at et3 eg3 ew3 eT3 te3 k3 ⊢
            have tdl : tds'.length ≤ 100 := by have := SJ.few; omega
            refine ⟨.ref td, rfl, .inl ⟨rfl, _, SqL.of et3⟩, .int v, rfl, td, _, _, rfl, rfl, et3, by rw [List.length_map]; exact Nat.lt_of_lt_of_le (by omega : tds'.length < 1000) (small1000 (by omega)), ?_⟩
            refine ⟨F' ++ [v], tds' ++ [v], _, _, _, _, _, _, rfl, k3.upd ft, by rw [upd_ne ngt]; exact eg3, by rw [upd_ne nwt]; exact ew3, by rw [upd_same, List.map_append]; rfl, SN, List.mem_append_left _ hF', ge1, fun t ht nt => ?_, ?_, ?_, fun row hrow => ?_⟩
            · by_cases ev : t = v
              · subst ev
                exact ⟨Tn, _, by rw [valV_put, if_pos rfl], nTav, keepTup (u := .lst (tds'.map V.int ++ [V.int t])) et3 (fun xs z => by cases z) _ _ eT3, htow dv⟩
              · rcases List.mem_append.mp ht with m | m
                · obtain ⟨T', row', h1, h2, h3, h4⟩ := te3.keep (keepTup (u := .lst (tds'.map V.int ++ [V.int v])) et3 (fun xs z => by cases z)) t m nt
                  exact ⟨T', row', by rw [valV_put, if_neg (fun z => ev (Sum.inl.inj z))]; exact h1, h2, h3, h4⟩
                · exact absurd (List.mem_singleton.mp m) ev
            · have := DSub.putK_len kw (Sum.inl v) (V.ref Tn)
              rw [List.length_append, List.length_singleton]; omega
            · rw [List.length_append, List.length_append, List.length_singleton]
              omega
            · rw [tk] at hrow
              rcases List.mem_append.mp hrow with m | m
              · exact List.mem_append_left _ (al row m)
              · rw [List.mem_singleton.mp m]; exact List.mem_append_right _ List.mem_cons_self
        · obtain ⟨F', tds', kg', kw', s6', s7', s8', s9', rfl, kJ, egJ, ewJ, etJ, SJ, hFJ, geJ, teJ, klJ, ms, al⟩ := p
          refine ⟨_, ?_, F', tds', kg', kw', _, _, _, _, _, rfl, kJ, egJ, ewJ, etJ, SJ.done (fun v w' e => ?_), geJ, teJ, klJ, rfl⟩
          · rw [List.length_append, List.length_singleton]; omega
          · obtain ⟨i, p, ei, hw, hp⟩ := e
            have il : i < ps.length := (List.getElem?_eq_some_iff.mp ei).1
            have ln : ts.length = (doorsTo ps hh ps.length).length := by rw [da'.len, List.length_map]
            rw [ln, List.take_length] at al
            rcases hp with ⟨h1, h2⟩ | ⟨h1, h2⟩
            · have := al _ (mem_doors.mpr ⟨i, il, .inl ⟨by rw [pr_of ei]; exact h1, rfl⟩⟩)
              rw [pr_of ei] at this
              rw [← h2]; exact this
            · have := al _ (mem_doors.mpr ⟨i, il, .inr ⟨by rw [pr_of ei]; exact h1, rfl⟩⟩)
              rw [pr_of ei] at this
              rw [← h2]; exact this
end
end Rw

namespace Rw
open PySem PySem.Spec PyProof.Rows L2
/-! ### a house's plan -/
def pf1 (b : V) : List (Str × V) := [("built", b)]
def pf2 (b p : V) : List (Str × V) := [("built", b), ("pipes", p)]
def pf3 (b p e : V) : List (Str × V) := [("built", b), ("pipes", p), ("doors", e)]
def pf4 (b p e g : V) : List (Str × V) := [("built", b), ("pipes", p), ("doors", e), ("gaps", g)]
def pf5 (b p e g t : V) : List (Str × V) := [("built", b), ("pipes", p), ("doors", e), ("gaps", g), ("towards", t)]
theorem putF_new {k : Str} {v : V} : ∀ fs : List (Str × V), (fs.all fun e => !decide (e.1 = k)) = true → putF k v fs = fs ++ [(k, v)]
  | [], _ => rfl
  | (x, y) :: r, h => by
    rw [List.all_cons, Bool.and_eq_true] at h
    have n : ¬ x = k := by
      intro z
      rw [decide_eq_true z] at h
      cases h.1
    show (if x = k then _ else (x, y) :: putF k v r) = _
    rw [if_neg n, putF_new r h.2]; rfl
theorem pf_2 (b p : V) : putF "pipes" p (pf1 b) = pf2 b p := putF_new (k := "pipes") (pf1 b) (by show (!decide (("built" : Str) = "pipes") && true) = true; decide +kernel)
theorem pf_3 (b p e : V) : putF "doors" e (pf2 b p) = pf3 b p e := putF_new (k := "doors") (pf2 b p) (by show (!decide (("built" : Str) = "doors") && (!decide (("pipes" : Str) = "doors") && true)) = true; decide +kernel)
theorem pf_4 (b p e g : V) : putF "gaps" g (pf3 b p e) = pf4 b p e g := putF_new (k := "gaps") (pf3 b p e) (by show (!decide (("built" : Str) = "gaps") && (!decide (("pipes" : Str) = "gaps") && (!decide (("doors" : Str) = "gaps") && true))) = true; decide +kernel)
theorem pf_5 (b p e g t : V) : putF "towards" t (pf4 b p e g) = pf5 b p e g t := putF_new (k := "towards") (pf4 b p e g) (by show (!decide (("built" : Str) = "towards") && (!decide (("pipes" : Str) = "towards") && (!decide (("doors" : Str) = "towards") && (!decide (("gaps" : Str) = "towards") && true)))) = true; decide +kernel)
theorem lk_no {k x : Str} {y : V} {r : List (Str × V)} (h : (k == x) = false) : ((x, y) :: r).lookup k = r.lookup k := by simp only [List.lookup, h]
theorem lk_yes {k : Str} {y : V} {r : List (Str × V)} : ((k, y) :: r).lookup k = some y := by simp [List.lookup]
theorem pf_built (b p e g t : V) : (pf5 b p e g t).lookup ("built" : Str) = some b := lk_yes
theorem pf_pipes (b p e g t : V) : (pf5 b p e g t).lookup ("pipes" : Str) = some p := ((lk_no (k := "pipes") (x := "built") (by decide +kernel)).trans lk_yes)
theorem pf_doors (b p e g t : V) : (pf5 b p e g t).lookup ("doors" : Str) = some e := ((lk_no (k := "doors") (x := "built") (by decide +kernel)).trans ((lk_no (k := "doors") (x := "pipes") (by decide +kernel)).trans lk_yes))
theorem pf_gaps (b p e g t : V) : (pf5 b p e g t).lookup ("gaps" : Str) = some g := ((lk_no (k := "gaps") (x := "built") (by decide +kernel)).trans ((lk_no (k := "gaps") (x := "pipes") (by decide +kernel)).trans ((lk_no (k := "gaps") (x := "doors") (by decide +kernel)).trans lk_yes)))
theorem pf_tow (b p e g t : V) : (pf5 b p e g t).lookup ("towards" : Str) = some t := ((lk_no (k := "towards") (x := "built") (by decide +kernel)).trans ((lk_no (k := "towards") (x := "pipes") (by decide +kernel)).trans ((lk_no (k := "towards") (x := "doors") (by decide +kernel)).trans ((lk_no (k := "towards") (x := "gaps") (by decide +kernel)).trans lk_yes))))
def PlanAt (C : Addr) (av : List Addr) (H : Hp) (a : Addr) (n : Int) (ps : List Pi) (d : Int → Int → Int) : Prop :=
  ∃ (dx hb pp dl gl tl : Addr) (xp : List V) (ds gs ws : List Addr), a ∉ av ∧ H a = some (.ins C dx (pf5 (.ref hb) (.ref pp) (.ref dl) (.ref gl) (.ref tl))) ∧ hb ∉ av ∧ H hb = some (.tup [.int n, .ref pp]) ∧ pp ∉ av ∧ H pp = some (.tup xp) ∧ Dts av H xp (ps.map Pi.dat) ∧
    dl ∉ av ∧ H dl = some (.lst (ds.map V.ref)) ∧ (ds.length : Int) = n ∧ (∀ z ∈ ds, z ∉ av) ∧ Rws av H ds (fun r => doorsTo ps (r : Int) ps.length) 100 ∧
    gl ∉ av ∧ H gl = some (.lst (gs.map V.ref)) ∧ gs.length = n.toNat ∧ (∀ (r : Nat) (z : Addr), gs[r]? = some z → z ∉ av ∧ GapsAt H z n d (r : Int)) ∧
    tl ∉ av ∧ H tl = some (.lst (ws.map V.ref)) ∧ ws.length = n.toNat ∧ ∀ (r : Nat) (z : Addr), ws[r]? = some z → z ∉ av ∧ TowAt av H z n ps d (r : Int)
theorem GapsAt.keep {av : List Addr} {H H' : Hp} {z : Addr} {n r : Int} {d : Int → Int → Int} (h : GapsAt H z n d r) (nz : z ∉ av) (k : Keep av H H') : GapsAt H' z n d r := by
  obtain ⟨kvs, e, h⟩ := h
  exact ⟨kvs, k z _ e nz, h⟩
theorem TowAt.keep {av : List Addr} {H H' : Hp} {z : Addr} {n r : Int} {ps : List Pi} {d : Int → Int → Int} (h : TowAt av H z n ps d r) (nz : z ∉ av) (k : Keep av H H') : TowAt av H' z n ps d r := by
  obtain ⟨kvs, e, h⟩ := h
  refine ⟨kvs, k z _ e nz, fun t ht nt => ?_⟩
  obtain ⟨T, row, h1, h2, h3, h4⟩ := h t ht nt
  exact ⟨T, row, h1, h2, k T _ h3 h2, h4⟩
theorem TowAt.less {av av' : List Addr} {H : Hp} {z : Addr} {n r : Int} {ps : List Pi} {d : Int → Int → Int} (h : TowAt av H z n ps d r) (s : ∀ a ∈ av', a ∈ av) : TowAt av' H z n ps d r := by
  obtain ⟨kvs, e, h⟩ := h
  refine ⟨kvs, e, fun t ht nt => ?_⟩
  obtain ⟨T, row, h1, h2, h3, h4⟩ := h t ht nt
  exact ⟨T, row, h1, fun m => h2 (s T m), h3, h4⟩
theorem Rws.keep {av : List Addr} {G G' : Hp} {ds : List Addr} {f : Nat → List (List Int)} {m : Nat} (h : Rws av G ds f m) (nz : ∀ z ∈ ds, z ∉ av) (k : Keep av G G') : Rws av G' ds f m := fun r a e => by
  obtain ⟨ts, h1, h2, h3⟩ := h r a e
  exact ⟨ts, k a _ h1 (nz a (List.mem_of_getElem? e)), h2.keep k, h3⟩
theorem Rws.more {av : List Addr} {G : Hp} {ds : List Addr} {f : Nat → List (List Int)} {m : Nat} {p : Addr} (h : Rws av G ds f m) (n : G p = none) : Rws (p :: av) G ds f m := fun r a e => by
  obtain ⟨ts, h1, h2, h3⟩ := h r a e
  exact ⟨ts, h1, h2.more n, h3⟩
theorem PlanAt.keep {C : Addr} {av : List Addr} {H H' : Hp} {a : Addr} {n : Int} {ps : List Pi} {d : Int → Int → Int} (h : PlanAt C av H a n ps d) (k : Keep av H H') : PlanAt C av H' a n ps d := by
  obtain ⟨dx, hb, pp, dl, gl, tl, xp, ds, gs, ws, a1, a2, a3, a4, a5, a6, a7, a8, a9, b1, b2, b3, b4, b5, b6, b7, b8, b9, c1, c2⟩ := h
  exact ⟨dx, hb, pp, dl, gl, tl, xp, ds, gs, ws, a1, k _ _ a2 a1, a3, k _ _ a4 a3, a5, k _ _ a6 a5, a7.keep k, a8, k _ _ a9 a8, b1, b2, b3.keep b2 k, b4, k _ _ b5 b4, b6, fun r z e => ⟨(b7 r z e).1, (b7 r z e).2.keep (b7 r z e).1 k⟩, b8, k _ _ b9 b8, c1, fun r z e => ⟨(c2 r z e).1, (c2 r z e).2.keep (c2 r z e).1 k⟩⟩
theorem PlanAt.less {C : Addr} {av av' : List Addr} {H : Hp} {a : Addr} {n : Int} {ps : List Pi} {d : Int → Int → Int} (h : PlanAt C av H a n ps d) (s : ∀ a ∈ av', a ∈ av) : PlanAt C av' H a n ps d := by
  obtain ⟨dx, hb, pp, dl, gl, tl, xp, ds, gs, ws, a1, a2, a3, a4, a5, a6, a7, a8, a9, b1, b2, b3, b4, b5, b6, b7, b8, b9, c1, c2⟩ := h
  have f : ∀ {z : Addr}, z ∉ av → z ∉ av' := fun nz m => nz (s _ m)
  exact ⟨dx, hb, pp, dl, gl, tl, xp, ds, gs, ws, f a1, a2, f a3, a4, f a5, a6, a7.less s, f a8, a9, b1, fun z m => f (b2 z m), b3.less s, f b4, b5, b6, fun r z e => ⟨f (b7 r z e).1, (b7 r z e).2⟩, f b8, b9, c1, fun r z e => ⟨f (c2 r z e).1, (c2 r z e).2.less s⟩⟩
/-! a class of the program whose __init__ keeps a promise -/
def CanMk (P : Program) (w : World) (K : PySem.W.Frag) (mg : Str → Option Value) (base : Heap) (x : Str) (C : Addr) (ps : List Str) (k : Nat) (sp : Sp) : Prop := ∃ f fd, Mk K C f ∧ FnOk P w K mg base CX0 k f fd ps sp ∧ mg x = some (.ref C) ∧ Binds K fd ps []
theorem pe_mk {X : Cx} {x : Str} {C : Addr} {ps : List Str} {k : Nat} {sp : Sp} {e : Expr} {es : List Expr} {t : TA} {p pos : Pos} (M : CanMk X.prog X.w X.K X.mg X.base x C ps k sp) (hr : Room (k + 1) X.A) (hg : Gl X x)
    (ha : PA X (e :: es) t) (hdb : (x == ("__debug__" : Str)) = false := by decide) (he : starEach (e :: es) X.env = (false, eval e X.env) :: starEach es X.env := by rfl) (hpl : (backTo pos (starEach es X.env)).any (·.1) = false := by rfl) :
    PE X (.Call (.Name x p) (e :: es) [] pos) (tMake C sp [] E0 t) := by
  obtain ⟨f, fd, M, F, gm, b⟩ := M
  exact pe_make M F hr hg gm b .nil pass0 ha hdb he hpl
structure PlanTxt (K : PySem.W.Frag) (C : Addr) : Prop where
  cl : Cls K C
  nB : NoAttr K C "built"
  nP : NoAttr K C "pipes"
  nD : NoAttr K C "doors"
  nG : NoAttr K C "gaps"
  nT : NoAttr K C "towards"
section
variable {P : Program} {w : World} {K : PySem.W.Frag} {mg : Str → Option Value} {base : Heap}
abbrev sInit : Stmt := inClass (topS 1) 0
abbrev nInit : List Str := ["self", "house", "room", "gaps", "towards"]
theorem scInit : FnScope nInit ["self", "house"] (defScope sInit) := ⟨rfl, rfl, rfl, by decide +kernel, rfl, by decide +kernel, by decide +kernel⟩
def spInit (C : Addr) : Sp := fun vs H Q _ => ∃ (x dx : Addr) (h : V) (n : Int) (ps : List Pi) (d : Int → Int → Int) (av : List Addr), vs = [.ref x, h] ∧ H x = some (.ins C dx []) ∧ x ∉ av ∧ Dt (x :: av) H h (houseD n (ps.map Pi.dat)) ∧ HouseOk n ps ∧ Tm n ps d ∧ Tr av H ∧
  ∀ H' : Hp, Keep [x] H H' → Tr av H' → PlanAt C av H' x n ps d → Q .non H'
theorem ok_init {C f : Addr} {fd : FuncData} (F : Fun K "__init__" "Plan.__init__" sInit f fd) (B : Blt mg) (X : PlanTxt K C) (CD : Can P w K mg base "doors_of" ["house"] 1 spDoors) (CS : Can P w K mg base "spread_from" ["doors", "room"] 1 spSpread) : FnOk P w K mg base CX0 2 f fd ["self", "house"] (spInit C) := by
  refine F.ok (k := 1) scInit (fun vs H Q E h => ?_) (fun cdv A outer s H vs Q E hr h => ?_)
  · obtain ⟨x, dx, h, n, ps, d, av, rfl, _⟩ := h
    rfl
  · obtain ⟨x, dx, h, n, ps, d, av, rfl, ex, nx, hh, hk, T, tr, q⟩ := h
    have n1 := hk.n1
    have n2 := hk.n2
    refine ⟨_, pss_cons (ps_fld (pv 0) (pv 1) rfl)
      (pss_cons (ps_fld (pv 0) (pe_ix ix_tup (pv 1) pe_int (fun _ _ => rfl)) rfl)
      (pss_cons (ps_fld (pv 0) (pe_can CD (hr.mono (by decide)) (by rfl) (pa_cons (pv 1) pa_nil)) rfl)
      (pss_cons (ps_fld (pv 0) (pe_lst pa_nil) rfl)
      (pss_cons (ps_fld (pv 0) (pe_lst pa_nil) rfl)
      (pss_one (ps_for PassesOwn.never rfl (pi_range1 (by rfl) B.range_ (pa_cons (pe_ix ix_tup (pv 1) pe_int (fun _ _ => rfl)) pa_nil)) (pg_name (i := 2) scInit.nd rfl (by first | exact Or.inl rfl | exact Or.inr rfl))
      (pss_cons (ps_asg (pe_can CS (hr.mono (by decide)) (by rfl) (pa_cons (pe_fld (pv 0) rfl) (pa_cons (pv 2) pa_nil))) (pg_tup (by rfl) (pgs_cons (pg_name (i := 3) scInit.nd rfl (by first | exact Or.inl rfl | exact Or.inr rfl)) (pgs_cons (pg_name (i := 4) scInit.nd rfl (by first | exact Or.inl rfl | exact Or.inr rfl)) pgs_nil))))
      (pss_cons (ps_expr (pe_bm PySem.F.plainAttrs_list PySem.F.slot_list_append PySem.F.type_list_append mt_append (pe_fld (pv 0) rfl) (pa_cons (pv 3) pa_nil)))
      (pss_one (ps_expr (pe_bm PySem.F.plainAttrs_list PySem.F.slot_list_append PySem.F.type_list_append mt_append (pe_fld (pv 0) rfl) (pa_cons (pv 4) pa_nil)))))))))))), ?_⟩
    obtain ⟨ah, ap, xp, rfl, na, ea, nb, eb, db⟩ := house_parts hh
    have nax : ah ≠ x := fun z => na (by rw [z]; exact List.mem_cons_self)
    have nbx : ap ≠ x := fun z => nb (by rw [z]; exact List.mem_cons_self)
    refine ⟨.ref ah, rfl, .ref x, rfl, x, C, dx, [], rfl, ex, X.cl, X.nB, by show 0 < 1000; decide, ?_⟩
    refine ⟨.ref ah, rfl, ah, [.int n, .ref ap], 1, .ref ap, rfl, rfl, SqT.of (by rw [upd_ne nax]; exact ea), atI_nat (j := 1) rfl, .ref x, rfl, x, C, dx, _, rfl, upd_same, X.cl, X.nP, by show 1 < 1000; decide, ?_⟩
    rw [upd_upd, show putF "built" (V.ref ah) [] = pf1 (.ref ah) from rfl, pf_2]
    have kx : ∀ o, Keep (x :: av) H (upd H x o) := fun o => Keep.put List.mem_cons_self
    have trx : ∀ o, Tr (x :: av) (upd H x o) := fun o => (tr.upd).cons upd_same
    refine ⟨.ref ah, rfl, .ref ah, n, ps, x :: av, rfl, hh.keep (kx _), hk, trx _, fun H1 Dl ds k1 fD nD nds tr1 eD dl rws => ?_⟩
    have ex1 := k1 x _ upd_same List.not_mem_nil
    refine ⟨.ref x, rfl, x, C, dx, _, rfl, ex1, X.cl, X.nD, by show 2 < 1000; decide, ?_⟩
    rw [pf_3]
    have nDx : Dl ≠ x := fun z => nD (by rw [z]; exact List.mem_cons_self)
    have kA : Keep [x] H (upd H1 x (.ins C dx (pf3 (.ref ah) (.ref ap) (.ref Dl)))) := ((Keep.put List.mem_cons_self).trans k1.of).trans (Keep.put List.mem_cons_self)
    have rwA : Rws (x :: av) (upd H1 x (.ins C dx (pf3 (.ref ah) (.ref ap) (.ref Dl)))) ds (fun r => doorsTo ps (r : Int) ps.length) 100 := rws.keep nds (Keep.put List.mem_cons_self)
    have eDA : (upd H1 x (.ins C dx (pf3 (.ref ah) (.ref ap) (.ref Dl)))) Dl = some (.lst (ds.map V.ref)) := by rw [upd_ne nDx]; exact eD
    have exA : (upd H1 x (.ins C dx (pf3 (.ref ah) (.ref ap) (.ref Dl)))) x = some (.ins C dx (pf3 (.ref ah) (.ref ap) (.ref Dl))) := upd_same
    have trA : Tr (x :: av) (upd H1 x (.ins C dx (pf3 (.ref ah) (.ref ap) (.ref Dl)))) := tr1.upd
    have kA2 : Keep (x :: av) H (upd H1 x (.ins C dx (pf3 (.ref ah) (.ref ap) (.ref Dl)))) := kA.mono (fun z m => by rw [List.mem_singleton.mp m]; exact List.mem_cons_self)
    generalize upd H1 x (.ins C dx (pf3 (.ref ah) (.ref ap) (.ref Dl))) = HA at kA kA2 rwA eDA exA trA ⊢
    refine ⟨show 0 ≤ sizeLine by decide, fun gl ngl => ?_⟩
    have exB : (upd HA gl (.lst [])) x = some (.ins C dx (pf3 (.ref ah) (.ref ap) (.ref Dl))) := by rw [upd_ne (ne_of_none exA ngl)]; exact exA
    refine ⟨.ref x, rfl, x, C, dx, _, rfl, exB, X.cl, X.nG, by show 3 < 1000; decide, ?_⟩
    rw [pf_4]
    refine ⟨show 0 ≤ sizeLine by decide, fun tl ntl => ?_⟩
    have ngx : gl ≠ x := (ne_of_none exA ngl).symm
    have egB : (upd (upd HA gl (.lst [])) x (.ins C dx (pf4 (.ref ah) (.ref ap) (.ref Dl) (.ref gl)))) gl = some (.lst []) := by rw [upd_ne ngx]; exact upd_same
    have exC : (upd (upd (upd HA gl (.lst [])) x (.ins C dx (pf4 (.ref ah) (.ref ap) (.ref Dl) (.ref gl)))) tl (.lst [])) x = some (.ins C dx (pf4 (.ref ah) (.ref ap) (.ref Dl) (.ref gl))) := by
      rw [upd_ne (ne_of_none upd_same ntl)]; exact upd_same
    refine ⟨.ref x, rfl, x, C, dx, _, rfl, exC, X.cl, X.nT, by show 4 < 1000; decide, ?_⟩
    rw [pf_5]
    have ntx : tl ≠ x := (ne_of_none (upd_same (H := upd HA gl (.lst [])) (a := x) (o := .ins C dx (pf4 (.ref ah) (.ref ap) (.ref Dl) (.ref gl)))) ntl).symm
    have ntg : tl ≠ gl := (ne_of_none egB ntl).symm
    have fgl : HA gl = none := ngl
    have ftl : HA tl = none := by rw [upd_ne ntx, upd_ne ntg] at ntl; exact ntl
    have nDg : Dl ≠ gl := ne_of_none eDA fgl
    have nDt : Dl ≠ tl := ne_of_none eDA ftl
    have nDav : Dl ∉ gl :: tl :: x :: av := fun m => by
      rcases List.mem_cons.mp m with m | m
      · exact nDg m
      · rcases List.mem_cons.mp m with m | m
        · exact nDt m
        · exact nD m
    have nds3 : ∀ z ∈ ds, z ∉ gl :: tl :: x :: av := fun z hz m => by
      obtain ⟨r, gr⟩ := List.mem_iff_getElem?.mp hz
      obtain ⟨ts, ez, _⟩ := rwA r z gr
      rcases List.mem_cons.mp m with m | m
      · exact ne_of_none ez fgl m
      · rcases List.mem_cons.mp m with m | m
        · exact ne_of_none ez ftl m
        · exact nds z hz m
    have fgH : H gl = none := by
      cases e : H gl with
      | none => rfl
      | some o => rw [kA gl o e (fun m => ngx (List.mem_singleton.mp m))] at fgl; cases fgl
    have ftH : H tl = none := by
      cases e : H tl with
      | none => rfl
      | some o => rw [kA tl o e (fun m => ntx (List.mem_singleton.mp m))] at ftl; cases ftl
    have m1 : gl ∈ gl :: tl :: x :: av := by simp
    have m2 : tl ∈ gl :: tl :: x :: av := by simp
    have m3 : x ∈ gl :: tl :: x :: av := by simp
    have exD := upd_same (H := upd (upd (upd HA gl (.lst [])) x (.ins C dx (pf4 (.ref ah) (.ref ap) (.ref Dl) (.ref gl)))) tl (.lst [])) (a := x) (o := .ins C dx (pf5 (.ref ah) (.ref ap) (.ref Dl) (.ref gl) (.ref tl)))
    have kD : Keep (gl :: tl :: x :: av) HA (upd (upd (upd (upd HA gl (.lst [])) x (.ins C dx (pf4 (.ref ah) (.ref ap) (.ref Dl) (.ref gl)))) tl (.lst [])) x (.ins C dx (pf5 (.ref ah) (.ref ap) (.ref Dl) (.ref gl) (.ref tl)))) := (((Keep.put m1).trans (Keep.put m3)).trans (Keep.put m2)).trans (Keep.put m3)
    have kDx : Keep [x] H (upd (upd (upd (upd HA gl (.lst [])) x (.ins C dx (pf4 (.ref ah) (.ref ap) (.ref Dl) (.ref gl)))) tl (.lst [])) x (.ins C dx (pf5 (.ref ah) (.ref ap) (.ref Dl) (.ref gl) (.ref tl)))) :=
      (((kA.trans (Keep.new ngl)).trans (Keep.put List.mem_cons_self)).trans (Keep.new ntl)).trans (Keep.put List.mem_cons_self)
    have egD : (upd (upd (upd (upd HA gl (.lst [])) x (.ins C dx (pf4 (.ref ah) (.ref ap) (.ref Dl) (.ref gl)))) tl (.lst [])) x (.ins C dx (pf5 (.ref ah) (.ref ap) (.ref Dl) (.ref gl) (.ref tl)))) gl = some (.lst []) := by
      rw [upd_ne ngx, upd_ne ntg.symm, upd_ne ngx]; exact upd_same
    have etD : (upd (upd (upd (upd HA gl (.lst [])) x (.ins C dx (pf4 (.ref ah) (.ref ap) (.ref Dl) (.ref gl)))) tl (.lst [])) x (.ins C dx (pf5 (.ref ah) (.ref ap) (.ref Dl) (.ref gl) (.ref tl)))) tl = some (.lst []) := by
      rw [upd_ne ntx]; exact upd_same
    have trD : Tr (gl :: tl :: x :: av) (upd (upd (upd (upd HA gl (.lst [])) x (.ins C dx (pf4 (.ref ah) (.ref ap) (.ref Dl) (.ref gl)))) tl (.lst [])) x (.ins C dx (pf5 (.ref ah) (.ref ap) (.ref Dl) (.ref gl) (.ref tl)))) := fun a m => by
      rcases List.mem_cons.mp m with m | m
      · rw [m]; exact ⟨_, egD⟩
      · rcases List.mem_cons.mp m with m | m
        · rw [m]; exact ⟨_, etD⟩
        · exact (((trA.upd).upd).upd).upd a m
    generalize upd (upd (upd (upd HA gl (.lst [])) x (.ins C dx (pf4 (.ref ah) (.ref ap) (.ref Dl) (.ref gl)))) tl (.lst [])) x (.ins C dx (pf5 (.ref ah) (.ref ap) (.ref Dl) (.ref gl) (.ref tl))) = HD at exD kD kDx egD etD trD ⊢
    have eaD := kDx ah _ ea (fun m => nax (List.mem_singleton.mp m))
    refine ⟨.ref ah, rfl, ah, [.int n, .ref ap], 0, .int n, rfl, rfl, SqT.of eaD, atI_nat (j := 0) rfl, n, rfl, by omega, by omega, for_range (lo := 0) (n := n.toNat)
      (fun i σ G => ∃ s2 s3 s4, σ = [some (.ref x), some (.ref ah), s2, s3, s4] ∧ Keep [x] H G ∧ Keep (gl :: tl :: x :: av) HA G ∧ Tr (gl :: tl :: x :: av) G ∧ G x = some (.ins C dx (pf5 (.ref ah) (.ref ap) (.ref Dl) (.ref gl) (.ref tl))) ∧
        ∃ gs ws : List Addr, gs.length = i ∧ ws.length = i ∧ G gl = some (.lst (gs.map V.ref)) ∧ G tl = some (.lst (ws.map V.ref)) ∧ (∀ (r : Nat) (z : Addr), gs[r]? = some z → z ∉ gl :: tl :: x :: av ∧ GapsAt G z n d (r : Int)) ∧ ∀ (r : Nat) (z : Addr), ws[r]? = some z → z ∉ gl :: tl :: x :: av ∧ TowAt (gl :: tl :: x :: av) G z n ps d (r : Int))
      ⟨_, _, _, rfl, kDx, kD, trD, exD, [], [], rfl, rfl, egD, etD, fun r z e => by simp at e, fun r z e => by simp at e⟩ (fun i σ G hi p => ?_) (fun σ G p => ?_)⟩
    · obtain ⟨s2, s3, s4, rfl, kG, kG2, trG, exG, gs, ws, lg, lw, eg, et, hg, hw⟩ := p
      have eDG := kG2 Dl _ eDA nDav
      have rwG : Rws (gl :: tl :: x :: av) G ds (fun r => doorsTo ps (r : Int) ps.length) 100 := by
        have z : Rws (gl :: tl :: x :: av) HA ds (fun r => doorsTo ps (r : Int) ps.length) 100 := by
          have z1 : Rws (tl :: x :: av) HA ds (fun r => doorsTo ps (r : Int) ps.length) 100 := rwA.more ftl
          exact z1.more fgl
        exact z.keep nds3 kG2
      refine ⟨.ref x, rfl, x, C, dx, _, .ref Dl, rfl, exG, X.cl, X.nD, pf_doors .., .int (0 + (i : Int)), rfl, Dl, ds, n, 0 + (i : Int), ps, d, gl :: tl :: x :: av, rfl, eDG, dl, rwG, hk, T, by omega, by omega, trG, fun G1 t g w k1 tr1 nt ng nw etp gp tw => ?_⟩
      refine ⟨t, [.ref g, .ref w], rfl, SqT.of etp, rfl, _, _, rfl, _, [], rfl, rfl, ?_⟩
      have ex1 := k1 x _ exG List.not_mem_nil
      have eg1 := k1 gl _ eg List.not_mem_nil
      have et1 := k1 tl _ et List.not_mem_nil
      refine ⟨.ref x, rfl, x, C, dx, _, .ref gl, rfl, ex1, X.cl, X.nG, pf_gaps .., .inl ⟨rfl, _, SqL.of eg1⟩, .ref g, rfl, gl, _, _, rfl, rfl, eg1, by rw [List.length_map]; exact Nat.lt_of_lt_of_le (by omega : gs.length < 1000) (small1000 (by omega)), ?_⟩
      have ex2 : (upd G1 gl (.lst (gs.map V.ref ++ [.ref g]))) x = some (.ins C dx (pf5 (.ref ah) (.ref ap) (.ref Dl) (.ref gl) (.ref tl))) := by rw [upd_ne ngx.symm]; exact ex1
      have et2 : (upd G1 gl (.lst (gs.map V.ref ++ [.ref g]))) tl = some (.lst (ws.map V.ref)) := by rw [upd_ne ntg]; exact et1
      refine ⟨.ref x, rfl, x, C, dx, _, .ref tl, rfl, ex2, X.cl, X.nT, pf_tow .., .inl ⟨rfl, _, SqL.of et2⟩, .ref w, rfl, tl, _, _, rfl, rfl, et2, by rw [List.length_map]; exact Nat.lt_of_lt_of_le (by omega : ws.length < 1000) (small1000 (by omega)), ?_⟩
      have kF : Keep (gl :: tl :: x :: av) G1 (upd (upd G1 gl (.lst (gs.map V.ref ++ [.ref g]))) tl (.lst (ws.map V.ref ++ [.ref w]))) := (Keep.put m1).trans (Keep.put m2)
      have kF0 : Keep (gl :: tl :: x :: av) G (upd (upd G1 gl (.lst (gs.map V.ref ++ [.ref g]))) tl (.lst (ws.map V.ref ++ [.ref w]))) := k1.of.trans kF
      have i0 : (0 + (i : Int)) = (i : Int) := by omega
      rw [i0] at gp tw
      refine ⟨_, _, _, rfl, ?_, kG2.trans kF0, (tr1.upd).upd, by rw [upd_ne ntx.symm]; exact ex2, gs ++ [g], ws ++ [w], by rw [List.length_append, lg]; rfl, by rw [List.length_append, lw]; rfl, ?_, ?_, fun r z e => ?_, fun r z e => ?_⟩
      · exact ((kG.trans k1.of).upd fgH).upd ftH
      · rw [upd_ne ntg.symm, upd_same, List.map_append]; rfl
      · rw [upd_same, List.map_append]; rfl
      · by_cases c : r < gs.length
        · rw [List.getElem?_append_left c] at e
          exact ⟨(hg r z e).1, (hg r z e).2.keep (hg r z e).1 kF0⟩
        · rw [List.getElem?_append_right (by omega)] at e
          have c2 : r - gs.length = 0 := by
            apply Classical.byContradiction
            intro c2
            rw [List.getElem?_eq_none (by simp; omega)] at e; cases e
          rw [c2] at e
          cases e
          have cr : r = i := by omega
          subst cr
          exact ⟨ng, gp.keep ng kF⟩
      · by_cases c : r < ws.length
        · rw [List.getElem?_append_left c] at e
          exact ⟨(hw r z e).1, (hw r z e).2.keep (hw r z e).1 kF0⟩
        · rw [List.getElem?_append_right (by omega)] at e
          have c2 : r - ws.length = 0 := by
            apply Classical.byContradiction
            intro c2
            rw [List.getElem?_eq_none (by simp; omega)] at e; cases e
          rw [c2] at e
          cases e
          have cr : r = i := by omega
          subst cr
          exact ⟨nw, tw.keep nw kF⟩
    · obtain ⟨s2, s3, s4, rfl, kG, kG2, trG, exG, gs, ws, lg, lw, eg, et, hg, hw⟩ := p
      have sub : ∀ a ∈ av, a ∈ gl :: tl :: x :: av := fun a m => by simp [m]
      have f : ∀ {z : Addr}, z ∉ gl :: tl :: x :: av → z ∉ av := fun nz m => nz (sub _ m)
      have f1 : ∀ {z : Addr}, z ∉ x :: av → z ∉ av := fun nz m => nz (List.mem_cons_of_mem _ m)
      have kav : Keep (x :: av) H G := kG.mono (fun z m => by rw [List.mem_singleton.mp m]; exact List.mem_cons_self)
      have rwG : Rws (gl :: tl :: x :: av) G ds (fun r => doorsTo ps (r : Int) ps.length) 100 := by
        have z : Rws (gl :: tl :: x :: av) HA ds (fun r => doorsTo ps (r : Int) ps.length) 100 := by
          have z1 : Rws (tl :: x :: av) HA ds (fun r => doorsTo ps (r : Int) ps.length) 100 := rwA.more ftl
          exact z1.more fgl
        exact z.keep nds3 kG2
      refine q G kG (fun a m => trG a (sub a m)) ⟨dx, ah, ap, Dl, gl, tl, xp, ds, gs, ws, nx, exG, f1 na, kav ah _ ea na, f1 nb, kav ap _ eb nb, (db.keep kav).less (fun a m => List.mem_cons_of_mem _ m), f nDav, kG2 Dl _ eDA nDav, dl, fun z m => f (nds3 z m), rwG.less sub, ?_, eg, lg, fun r z e => ⟨f (hg r z e).1, (hg r z e).2⟩, ?_, et, lw, fun r z e => ⟨f (hw r z e).1, (hw r z e).2.less sub⟩⟩
      · exact tr.not fgH
      · exact tr.not ftH
end
end Rw

namespace Rw
open PySem PySem.Spec PyProof.Rows L2
/-! rules that name the written part by a letter (within comprehensions) -/
section
variable {X : Cx} {K : PySem.W.Frag}
theorem ix_tupK (h : X.K = K) : IxR X (rIxT K) := by subst h; exact ix_tup
theorem sl_tupK (h : X.K = K) : SlR X (rSlT K) := by subst h; exact sl_tup
theorem sl_listK (h : X.K = K) : SlR X (rSlL K) := by subst h; exact sl_list
theorem pg_tupK {es : List Expr} {k n : Nat} {t : TGs} {pos : Pos} (h : X.K = K) (hc : X.calm = true) (hg : PGs X es t) (hn : (assignEach es X.env).length = n := by rfl) (hst : (assignEach es X.env).findIdx? (·.1) = none := by rfl) : PG X (.Tuple es k pos) (gTup K n t) := by
  subst h; exact pg_tup hc hg hn hst
theorem pi_listK {tg l : Expr} {tl : TE} (h : X.K = K) (hl : PE X l tl) : PI X tg l (iList K tl) := by subst h; exact pi_list hl
theorem pi_tupK {tg l : Expr} {tl : TE} (h : X.K = K) (hl : PE X l tl) : PI X tg l (iTup K tl) := by subst h; exact pi_tup hl
theorem pe_fldK {e : Expr} {f : Str} {ta : TE} {pos : Pos} (h : X.K = K) (he : PE X e ta) (hb : attributeBase e f X.env (eval e X.env) = eval e X.env) : PE X (.Attribute e f pos) (tFld K ta f) := by subst h; exact pe_fld he hb
theorem call_len_seqK (h : X.K = K) : CallR X (.builtin "len") (fun xs H Q => ∃ p ys, xs = [.ref p] ∧ (SqL K H p ys ∨ SqT K H p ys) ∧ Q (.int ys.length) H) := by subst h; exact call_len_seq
end
end Rw

namespace Rw
open PySem PySem.Spec PyProof.Rows L2
/-! ### how far places lie apart -/
def onePipe (p q : Pl) : Bool := decide (p.length = 2) && (decide (q.length = 2) && decide (p.headD 0 = q.headD 0))
def exitsL (ps : List Pi) : Pl → List (List Int)
  | [r] => [[r, 0]]
  | [i, a] => [[(pr ps i).x, a], [(pr ps i).y, (pr ps i).l - a]]
  | _ => []
theorem Dt.nil {av : List Addr} {H : Hp} {v : V} {d : PyData} (h : Dt av H v d) : Dt [] H v d := h.less fun _ m => nomatch m
section
variable {P : Program} {w : World} {K : PySem.W.Frag} {mg : Str → Option Value} {base : Heap}
abbrev sOnePipe : Stmt := topS 5
abbrev nOnePipe : List Str := ["one", "other"]
theorem scOnePipe : FnScope nOnePipe ["one", "other"] (defScope sOnePipe) := ⟨rfl, rfl, rfl, by decide +kernel, rfl, by decide +kernel, by decide +kernel⟩
def spOnePipe : Sp := fun vs H Q _ => ∃ (o1 o2 : V) (p q : Pl), vs = [o1, o2] ∧ Dt [] H o1 (tupI p) ∧ Dt [] H o2 (tupI q) ∧ p ≠ [] ∧ q ≠ [] ∧ Q (.bl (onePipe p q)) H
theorem ok_onePipe (h : Has K mg "are_in_one_pipe" sOnePipe) (B : Blt mg) : Can P w K mg base "are_in_one_pipe" ["one", "other"] 1 spOnePipe := by
  obtain ⟨f, fd, F, g⟩ := h
  refine ⟨f, fd, F.ok (k := 0) scOnePipe (fun vs H Q E h => ?_) (fun cdv A outer s H vs Q E hr h => ?_), g, F.kp, F.binds fun _ _ _ _ _ _ us hl => match us, hl with | [_, _], _ => rfl⟩
  · obtain ⟨o1, o2, p, q, rfl, _⟩ := h
    rfl
  · obtain ⟨o1, o2, p, q, rfl, h1, h2, n1, n2, k⟩ := h
    refine ⟨_, pss_one (ps_ret (pe_and (pe_cmpR op_eq (pe_callB call_len_seq (by rfl) B.len_ PySem.boot_len (pa_cons (pv 0) pa_nil)) pe_int (nomark _)) (pe_and (pe_cmpR op_eq (pe_callB call_len_seq (by rfl) B.len_ PySem.boot_len (pa_cons (pv 1) pa_nil)) pe_int (nomark _)) (pe_one (pe_cmpR op_eq (pe_ix ix_tup (pv 0) pe_int (fun _ _ => rfl)) (pe_ix ix_tup (pv 1) pe_int (fun _ _ => rfl)) (nomark _)))))), ?_⟩
    obtain ⟨a1, rfl, _, e1⟩ := tupI_at h1
    obtain ⟨a2, rfl, _, e2⟩ := tupI_at h2
    obtain ⟨x, xs, rfl⟩ := List.exists_cons_of_ne_nil n1
    obtain ⟨y, ys, rfl⟩ := List.exists_cons_of_ne_nil n2
    have l1 : decide (V.int (((x :: xs).map V.int).length : Int) = V.int 2) = decide ((x :: xs).length = 2) := by
      rw [List.length_map]; exact decide_eq_decide.mpr ⟨fun z => by have := V.int.inj z; omega, fun z => by rw [z]; rfl⟩
    have l2 : decide (V.int (((y :: ys).map V.int).length : Int) = V.int 2) = decide ((y :: ys).length = 2) := by
      rw [List.length_map]; exact decide_eq_decide.mpr ⟨fun z => by have := V.int.inj z; omega, fun z => by rw [z]; rfl⟩
    refine ⟨.ref a1, rfl, a1, _, rfl, .inr (SqT.of e1), rfl, _, rfl, ?_⟩
    rw [l1]
    unfold onePipe at k
    cases c1 : decide ((x :: xs).length = 2) with
    | false => rw [c1] at k; exact iteF k
    | true =>
      rw [c1] at k
      refine iteT ⟨.ref a2, rfl, a2, _, rfl, .inr (SqT.of e2), rfl, _, rfl, ?_⟩
      rw [l2]
      cases c2 : decide ((y :: ys).length = 2) with
      | false => rw [c2] at k; exact iteF k
      | true =>
        rw [c2] at k
        refine iteT ⟨.ref a1, rfl, a1, _, 0, .int x, rfl, rfl, SqT.of e1, atI_nat (j := 0) rfl, .ref a2, rfl, a2, _, 0, .int y, rfl, rfl, SqT.of e2, atI_nat (j := 0) rfl, rfl, ?_⟩
        have z : decide (V.int x = V.int y) = decide ((x :: xs).headD 0 = (y :: ys).headD 0) := decide_eq_decide.mpr ⟨fun z => V.int.inj z, fun z => congrArg V.int z⟩
        rw [z]; exact k
abbrev sExits : Stmt := topS 6
abbrev nExits : List Str := ["plan", "place", "one", "other", "length"]
theorem scExits : FnScope nExits ["plan", "place"] (defScope sExits) := ⟨rfl, rfl, rfl, by decide +kernel, rfl, by decide +kernel, by decide +kernel⟩
def spExits (C : Addr) : Sp := fun vs H Q _ => ∃ (a : Addr) (v : V) (n : Int) (ps : List Pi) (d : Int → Int → Int) (p : Pl) (av : List Addr), vs = [.ref a, v] ∧ PlanAt C [] H a n ps d ∧ Dt [] H v (tupI p) ∧ okP n ps p ∧ Tr av H ∧
  ∀ (H' : Hp) (l : Addr) (us : List V), Keep [] H H' → l ∉ av → H' l = some (.lst us) → Dts av H' us ((exitsL ps p).map tupI) → Q (.ref l) H'
theorem ok_exits {C : Addr} (h : Has K mg "exits_of" sExits) (B : Blt mg) (X : PlanTxt K C) : Can P w K mg base "exits_of" ["plan", "place"] 1 (spExits C) := by
  obtain ⟨f, fd, F, g⟩ := h
  refine ⟨f, fd, F.ok (k := 0) scExits (fun vs H Q E h => ?_) (fun cdv A outer s H vs Q E hr h => ?_), g, F.kp, F.binds fun _ _ _ _ _ _ us hl => match us, hl with | [_, _], _ => rfl⟩
  · obtain ⟨a, v, n, ps, d, p, av, rfl, _⟩ := h
    rfl
  · obtain ⟨a, v, n, ps, d, p, av, rfl, pl, hv, ok, tr, k⟩ := h
    refine ⟨_, pss_cons (ps_if (pt_cmpR op_eq (pe_callB call_len_seq (by rfl) B.len_ PySem.boot_len (pa_cons (pv 1) pa_nil)) pe_int (nomark _)) (pss_one (ps_ret (pe_lst (pa_cons (pe_tup (pa_cons (pe_ix ix_tup (pv 1) pe_int (fun _ _ => rfl)) (pa_cons pe_int pa_nil))) pa_nil)))) pss_nil)
      (pss_cons (ps_asg (pe_slice sl_tup (pe_ix ix_tup (pe_fld (pv 0) rfl) (pe_ix ix_tup (pv 1) pe_int (fun _ _ => rfl)) (fun _ _ => rfl)) po_none (po_some pe_int)) (pg_tup (by rfl) (pgs_cons (pg_name (i := 2) scExits.nd rfl (by first | exact Or.inl rfl | exact Or.inr rfl)) (pgs_cons (pg_name (i := 3) scExits.nd rfl (by first | exact Or.inl rfl | exact Or.inr rfl)) (pgs_cons (pg_name (i := 4) scExits.nd rfl (by first | exact Or.inl rfl | exact Or.inr rfl)) pgs_nil)))))
      (pss_one (ps_ret (pe_lst (pa_cons (pe_tup (pa_cons (pv 2) (pa_cons (pe_ix ix_tup (pv 1) pe_int (fun _ _ => rfl)) pa_nil))) (pa_cons (pe_tup (pa_cons (pv 3) (pa_cons (pe_op op_sub (pv 4) (pe_ix ix_tup (pv 1) pe_int (fun _ _ => rfl))) pa_nil))) pa_nil)))))), ?_⟩
    obtain ⟨a1, rfl, _, e1⟩ := tupI_at hv
    rcases ok_cases ok with ⟨r, rfl, r0, r1⟩ | ⟨i, b, rfl, h0, h1, b0, b1⟩
    · refine ⟨.ref a1, rfl, a1, _, rfl, .inr (SqT.of e1), rfl, true, rfl, iteT ?_⟩
      refine ⟨.ref a1, rfl, a1, _, 0, .int r, rfl, rfl, SqT.of e1, atI_nat (j := 0) rfl, show 2 ≤ sizeLine by decide, fun t nt => ⟨show 1 ≤ sizeLine by decide, fun l nl => ?_⟩⟩
      exact k _ l _ ((Keep.new nt).trans (Keep.new nl)) ((tr.upd).not nl) upd_same (.cons (.tup (tr.not nt) (Keep.new (av := []) nl t _ upd_same List.not_mem_nil) (Dts.ints [r, 0])) .nil)
    · refine ⟨.ref a1, rfl, a1, _, rfl, .inr (SqT.of e1), rfl, false, rfl, iteF ?_⟩
      obtain ⟨dx, hb, pp, dl, gl, tl, xp, ds, gs, ws, a1', a2, a3, a4, a5, a6, a7, _⟩ := pl
      obtain ⟨p, pa, T1, T2, mp, gp, ga, epa⟩ := pi_at a7 h0 h1
      have epr : p = pr ps i := by
        have z := (pr_mem h0 h1).2
        rw [z] at gp; exact (Option.some.inj gp).symm
      subst epr
      refine ⟨.ref a, rfl, a, C, dx, _, .ref pp, rfl, a2, X.cl, X.nP, pf_pipes .., .ref a1, rfl, a1, _, 0, .int i, rfl, rfl, SqT.of e1, atI_nat (j := 0) rfl, pp, xp, i, .ref pa, rfl, rfl, SqT.of a6, ga, 3, rfl, pa, [.int (pr ps i).x, .int (pr ps i).y, .int (pr ps i).l, .ref T1, .ref T2], rfl, SqT.of epa, show ¬ (HT.sIx 5 0 none = 0 ∧ HT.sIx 5 5 (some 3) = 5) by decide +kernel, fun T3 nT3 => ?_⟩
      refine ⟨T3, [.int (pr ps i).x, .int (pr ps i).y, .int (pr ps i).l], rfl, SqT.of (upd_same.trans (congrArg some (congrArg HO.tup (cut_to _ 3)))), rfl, _, _, rfl, _, _, rfl, _, [], rfl, rfl, ?_⟩
      have e2 := Keep.new (av := []) (o := .tup (cutV [V.int (pr ps i).x, .int (pr ps i).y, .int (pr ps i).l, .ref T1, .ref T2] none (some 3))) nT3 a1 _ e1 List.not_mem_nil
      refine ⟨.int (pr ps i).x, rfl, .ref a1, rfl, a1, _, 1, .int b, rfl, rfl, SqT.of e2, atI_nat (j := 1) rfl, show 2 ≤ sizeLine by decide, fun t nt => ?_⟩
      have e3 := Keep.new (av := []) (o := .tup [.int (pr ps i).x, .int b]) nt a1 _ e2 List.not_mem_nil
      refine ⟨.int (pr ps i).y, rfl, .int (pr ps i).l, rfl, .ref a1, rfl, a1, _, 1, .int b, rfl, rfl, SqT.of e3, atI_nat (j := 1) rfl, (pr ps i).l, b, rfl, rfl, show 2 ≤ sizeLine by decide, fun u nu => ⟨show 2 ≤ sizeLine by decide, fun l nl => ?_⟩⟩
      have kl : Keep [] _ _ := Keep.new (av := []) (o := .lst [.ref t, .ref u]) nl
      have ku : Keep [] _ _ := Keep.new (av := []) (o := .tup [.int (pr ps i).y, .int ((pr ps i).l - b)]) nu
      exact k _ l _ ((Keep.new nT3).trans ((Keep.new nt).trans (ku.trans kl))) ((((tr.upd).upd).upd).not nl) upd_same
        (.cons (.tup ((tr.upd).not nt) (kl t _ (ku t _ upd_same List.not_mem_nil) List.not_mem_nil) (Dts.ints [(pr ps i).x, b])) (.cons (.tup (((tr.upd).upd).not nu) (kl u _ upd_same List.not_mem_nil) (Dts.ints [(pr ps i).y, (pr ps i).l - b])) .nil))
end
end Rw

namespace Rw
open PySem PySem.Spec PyProof.Rows L2
theorem hu10 {k : Nat} {A : Around} (hr : Room k A) : A.units + 10 < cLine := by have := hr.units; omega
/-! the rows that are compared -/
def trip (d : Int → Int → Int) (e f : List Int) : List Int := [e.getD 1 0 + d (e.getD 0 0) (f.getD 0 0) + f.getD 1 0, e.getD 0 0, f.getD 0 0]
def trips (ps : List Pi) (d : Int → Int → Int) (p q : Pl) : List (List Int) := (exitsL ps p).flatMap fun e => (exitsL ps q).map (trip d e)
theorem exits_ok {n : Int} {ps : List Pi} {d : Int → Int → Int} (T : Tm n ps d) {p : Pl} (h : okP n ps p) : ∀ e ∈ exitsL ps p, ∃ r b, e = [r, b] ∧ 0 ≤ r ∧ r < n := by
  intro e he
  rcases ok_cases h with ⟨r, rfl, r0, r1⟩ | ⟨i, b, rfl, h0, h1, b0, b1⟩
  · rw [List.mem_singleton.mp (show e ∈ [[r, 0]] from he)]; exact ⟨r, 0, rfl, r0, r1⟩
  · obtain ⟨x0, x1, y0, y1, _⟩ := T.at h0 h1
    rcases List.mem_cons.mp (show e ∈ [[(pr ps i).x, b], [(pr ps i).y, (pr ps i).l - b]] from he) with rfl | he
    · exact ⟨_, _, rfl, x0, x1⟩
    · rw [List.mem_singleton.mp he]; exact ⟨_, _, rfl, y0, y1⟩
theorem exits_few (ps : List Pi) (p : Pl) : (exitsL ps p).length ≤ 2 := by
  unfold exitsL
  split <;> simp
theorem exits_ne {n : Int} {ps : List Pi} {p : Pl} (h : okP n ps p) : exitsL ps p ≠ [] := by
  rcases ok_cases h with ⟨r, rfl, _⟩ | ⟨i, b, rfl, _⟩
  · intro z; cases z
  · intro z; cases z
theorem lay_tups : ∀ nss : List (List Int), PyData.canLayAll0 (nss.map tupI) = true
  | [] => by simp only [List.map_nil, PyData.canLayAll0]
  | n :: ns => by
    rw [List.map_cons]
    show (PyData.canLay0 (.tuple (n.map .int)) && PyData.canLayAll0 (ns.map tupI)) = true
    rw [lay_tups ns, Bool.and_true]
    show PyData.canLay0 (.tuple (n.map .int)) = true
    simp only [PyData.canLay0, tupI_lay n]
section
variable {P : Program} {w : World} {K : PySem.W.Frag} {mg : Str → Option Value} {base : Heap}
abbrev sShort : Stmt := topS 7
abbrev nShort : List Str := ["plan", "one", "other", "near", "begin", "far", "end"]
theorem scShort : FnScope nShort ["plan", "one", "other"] (defScope sShort) := ⟨rfl, rfl, rfl, by decide +kernel, rfl, by decide +kernel, by decide +kernel⟩
def spShort (C : Addr) : Sp := fun vs H Q _ => ∃ (a : Addr) (o1 o2 : V) (n : Int) (ps : List Pi) (d : Int → Int → Int) (p q : Pl), vs = [.ref a, o1, o2] ∧ PlanAt C [] H a n ps d ∧ Tm n ps d ∧ Dt [] H o1 (tupI p) ∧ Dt [] H o2 (tupI q) ∧ okP n ps p ∧ okP n ps q ∧
  ∀ (H' : Hp) (v : V) (ns : List Int), Keep [] H H' → Dt [] H' v (tupI ns) → ns ∈ trips ps d p q → (∀ m ∈ trips ps d p q, ns.headD 0 ≤ m.headD 0) → Q v H'
theorem ok_short {C : Addr} (h : Has K mg "shortest" sShort) (B : Blt mg) (X : PlanTxt K C) (CE : Can P w K mg base "exits_of" ["plan", "place"] 1 (spExits C)) : Can P w K mg base "shortest" ["plan", "one", "other"] 2 (spShort C) := by
  obtain ⟨f, fd, F, g⟩ := h
  refine ⟨f, fd, F.ok (k := 1) scShort (fun vs H Q E h => ?_) (fun cdv A outer s H vs Q E hr h => ?_), g, F.kp, F.binds fun _ _ _ _ _ _ us hl => match us, hl with | [_, _, _], _ => rfl⟩
  · obtain ⟨a, o1, o2, n, ps, d, p, q, rfl, _⟩ := h
    rfl
  · obtain ⟨a, o1, o2, n, ps, d, p, q, rfl, pl, T, h1, h2, okp, okq, k⟩ := h
    refine ⟨_, pss_one (ps_ret (pe_callB (cr_minT rfl (hu10 hr)) (by rfl) B.min_ boot_min (pa_cons (pe_lc2 (own := [("near", 3), ("begin", 4), ("far", 5), ("end", 6)]) (vs1 := [5, 6]) (tt := tYes) (tt1 := tYes) rfl scShort.nd (pi_list (pe_can CE (hr.mono (by decide)) (by rfl) (pa_cons (pv 0) (pa_cons (pv 1) pa_nil)))) (blkOk_by (N := nShort) (sc := defScope sShort) (by decide +kernel)) (by decide) (fun _ _ _ _ _ => (pg_tupK (K := K) (n := 2) rfl (by rfl) (pgs_cons (pg_name (i := 3) scShort.nd rfl (by first | exact Or.inl rfl | exact Or.inr rfl)) (pgs_cons (pg_name (i := 4) scShort.nd rfl (by first | exact Or.inl rfl | exact Or.inr rfl)) pgs_nil)))) (fun _ _ _ _ _ => pts_nil) (fun _ _ _ _ _ => (pi_listK (K := K) rfl (pe_can CE (hr.mono (by decide)) (by rfl) (pa_cons (pv 0) (pa_cons (pv 2) pa_nil))))) (fun _ _ _ _ _ => (pg_tupK (K := K) (n := 2) rfl (by rfl) (pgs_cons (pg_name (i := 5) scShort.nd rfl (by first | exact Or.inl rfl | exact Or.inr rfl)) (pgs_cons (pg_name (i := 6) scShort.nd rfl (by first | exact Or.inl rfl | exact Or.inr rfl)) pgs_nil)))) (fun _ _ _ _ _ => pts_nil) (fun _ _ _ _ _ => (pe_tup (pa_cons (pe_op op_add (pe_op op_add (pv 4) (pe_dget (hu_of hr) (pe_ix (ix_listK (K := K) rfl) (pe_fldK (K := K) rfl (pv 0) rfl) (pv 3) (fun _ _ => rfl)) (pv 5) (fun _ _ => rfl))) (pv 6)) (pa_cons (pv 3) (pa_cons (pv 5) pa_nil)))))) pa_nil))), ?_⟩
    refine ⟨.ref a, rfl, o1, rfl, a, o1, n, ps, d, p, [], rfl, pl, h1, okp, (show Tr [] H from fun _ m => absurd m List.not_mem_nil), fun H1 l1 us k1 _ el1 du1 => ?_⟩
    refine ⟨l1, rfl, ⟨_, SqL.of el1⟩, fun D nD => ?_⟩
    have nl1 : l1 ≠ D := ne_of_none el1 nD
    have duD := du1.more nD
    have ul : us.length = (exitsL ps p).length := by rw [du1.len, List.length_map]
    have few1 := exits_few ps p
    have few2 := exits_few ps q
    refine ⟨fun i m G => m = us.length - i ∧ i ≤ us.length ∧ Keep [] H1 G ∧ ∃ acc : List V, G D = some (.lst acc) ∧ acc.length ≤ 2 * i ∧ Dts [D] G acc ((((exitsL ps p).take i).flatMap fun e => (exitsL ps q).map (trip d e)).map tupI), ⟨_, rfl, Nat.zero_le _, Keep.new nD, [], upd_same, Nat.zero_le _, .nil⟩, fun i m G z => ?_⟩
    obtain ⟨rfl, hi, kG, acc, eG, lG, dG⟩ := z
    have elG := kG l1 _ el1 List.not_mem_nil
    by_cases c : i < us.length
    · refine .inr ⟨⟨_, us[i], SqL.of elG, List.getElem?_eq_getElem c⟩, fun G' => Keep [] H1 G' ∧ ∃ acc : List V, G' D = some (.lst acc) ∧ acc.length ≤ 2 * (i + 1) ∧ Dts [D] G' acc ((((exitsL ps p).take (i + 1)).flatMap fun e => (exitsL ps q).map (trip d e)).map tupI), fun G' z => ⟨us.length - (i + 1), by omega, rfl, by omega, z⟩, fun x G' y => ?_⟩
      obtain ⟨rfl, hy⟩ := y
      have gx := hy us (SqL.of elG)
      have dG1 : Dts [D] G' us ((exitsL ps p).map tupI) := duD.keep kG.of
      obtain ⟨dd, gd, dx⟩ := dG1.getv i gx
      rw [List.getElem?_map] at gd
      obtain ⟨e, ge, rfl⟩ := Option.map_eq_some_iff.mp gd
      obtain ⟨r, b, rfl, r0, r1⟩ := exits_ok T okp e (List.mem_of_getElem? ge)
      obtain ⟨Te, rfl, _, eTe⟩ := tupI_at dx
      refine ⟨Te, [.int r, .int b], rfl, SqT.of eTe, rfl, _, _, rfl, _, [], rfl, rfl, rfl, ?_⟩
      have trD : Tr [D] G' := fun z m => by rw [List.mem_singleton.mp m]; exact ⟨_, eG⟩
      have plG := pl.keep (k1.trans kG)
      refine ⟨.ref a, rfl, o2, rfl, a, o2, n, ps, d, q, [D], rfl, plG, h2.keep (k1.trans kG), okq, trD, fun H4 l2 us2 k4 nl2 el2 du2 => ?_⟩
      have nl2D : l2 ≠ D := fun z => nl2 (by rw [z]; exact List.mem_cons_self)
      have ul2 : us2.length = (exitsL ps q).length := by rw [du2.len, List.length_map]
      refine ⟨l2, rfl, ⟨_, SqL.of el2⟩, ?_⟩
      refine ⟨fun j m J => m = us2.length - j ∧ j ≤ us2.length ∧ Keep [] H1 J ∧ Keep [D] H4 J ∧ ∃ acc : List V, J D = some (.lst acc) ∧ acc.length ≤ 2 * i + j ∧ Dts [D] J acc (((((exitsL ps p).take i).flatMap fun e => (exitsL ps q).map (trip d e)) ++ ((exitsL ps q).take j).map (trip d [r, b])).map tupI), ⟨_, rfl, Nat.zero_le _, kG.trans k4, Keep.refl _ _, acc, k4 D _ eG List.not_mem_nil, by omega, by rw [List.take_zero, List.map_nil, List.append_nil]; exact dG.keep k4.of⟩, fun j m J z => ?_⟩
      obtain ⟨rfl, hj, kJ, kJ4, acc, eJ, lJ, dJ⟩ := z
      have el2J := kJ4 l2 _ el2 nl2
      by_cases c2 : j < us2.length
      · refine .inr ⟨⟨_, us2[j], SqL.of el2J, List.getElem?_eq_getElem c2⟩, fun J' => Keep [] H1 J' ∧ Keep [D] H4 J' ∧ ∃ acc : List V, J' D = some (.lst acc) ∧ acc.length ≤ 2 * i + (j + 1) ∧ Dts [D] J' acc (((((exitsL ps p).take i).flatMap fun e => (exitsL ps q).map (trip d e)) ++ ((exitsL ps q).take (j + 1)).map (trip d [r, b])).map tupI), fun J' z => ⟨us2.length - (j + 1), by omega, rfl, by omega, z⟩, fun x J' y => ?_⟩
        obtain ⟨rfl, hy⟩ := y
        have gx2 := hy us2 (SqL.of el2J)
        obtain ⟨dd, gd2, dx2⟩ := (du2.keep kJ4).getv j gx2
        rw [List.getElem?_map] at gd2
        obtain ⟨e2, ge2, rfl⟩ := Option.map_eq_some_iff.mp gd2
        obtain ⟨s2, b2, rfl, s0, s1⟩ := exits_ok T okq e2 (List.mem_of_getElem? ge2)
        obtain ⟨Tf, rfl, _, eTf⟩ := tupI_at dx2
        obtain ⟨dxx, hb, pp, dl, gl, tl, xp, ds, gs, ws, a1, a2, a3, a4, a5, a6, a7, a8, a9, b1, b2', b3, b4, b5, b6, b7, _⟩ := pl.keep (k1.trans kJ)
        obtain ⟨gz, ggz⟩ : ∃ gz, gs[r.toNat]? = some gz := ⟨_, List.getElem?_eq_getElem (by omega)⟩
        obtain ⟨_, kvs, ekv, hkv⟩ := b7 r.toNat gz ggz
        have hval : valV kvs (Sum.inl s2) = some (.int (d r s2)) := by
          have z := hkv s2 s0 s1
          rw [show ((r.toNat : Nat) : Int) = r by omega] at z; exact z
        refine ⟨Tf, [.int s2, .int b2], rfl, SqT.of eTf, rfl, _, _, rfl, _, [], rfl, rfl, rfl, ?_⟩
        refine ⟨.int b, rfl, .ref a, rfl, a, C, dxx, _, .ref gl, rfl, a2, X.cl, X.nG, pf_gaps .., .int r, rfl, gl, _, r, .ref gz, rfl, rfl, SqL.of b5, atI_of r0 (by rw [List.getElem?_map, ggz]; rfl), .int s2, rfl, gz, .int (d r s2), rfl, by rw [← hval]; exact DGet.k (k := Sum.inl s2) ekv, b, d r s2, rfl, rfl, .int b2, rfl, b + d r s2, b2, rfl, rfl, .int r, rfl, .int s2, rfl, show 3 ≤ sizeLine by decide, fun t nt => ?_⟩
        have ntD : t ≠ D := (ne_of_none eJ nt).symm
        refine ⟨acc, by rw [upd_ne ntD.symm]; exact eJ, Nat.lt_of_lt_of_le (by omega : acc.length < 1000) (small1000 (by omega)), ?_⟩
        have kt : Keep [] J' (upd J' t (.tup [.int (b + d r s2 + b2), .int r, .int s2])) := Keep.new nt
        refine ⟨(kJ.trans kt).upd nD, (kJ4.trans kt.of).trans (Keep.put List.mem_cons_self), acc ++ [.ref t], upd_same, by rw [List.length_append, List.length_singleton]; omega, ?_⟩
        have tk : ((exitsL ps q).take (j + 1)).map (trip d [r, b]) = ((exitsL ps q).take j).map (trip d [r, b]) ++ [[b + d r s2 + b2, r, s2]] := by rw [List.take_add_one, ge2, List.map_append]; rfl
        rw [tk, ← List.append_assoc, List.map_append]
        exact ((dJ.keep kt.of).keep (Keep.put List.mem_cons_self)).app (.cons (.tup (fun m => ntD (List.mem_singleton.mp m)) (by rw [upd_ne ntD]; exact upd_same) (Dts.ints [b + d r s2 + b2, r, s2])) .nil)
      · refine .inl ⟨⟨_, SqL.of el2J, by omega⟩, kJ, acc, eJ, by omega, ?_⟩
        have ej : j = (exitsL ps q).length := by omega
        have tk : ((exitsL ps p).take (i + 1)).flatMap (fun e => (exitsL ps q).map (trip d e)) = ((exitsL ps p).take i).flatMap (fun e => (exitsL ps q).map (trip d e)) ++ (exitsL ps q).map (trip d [r, b]) := by rw [List.take_add_one, ge, List.flatMap_append]; simp
        rw [tk]
        rw [ej, List.take_length] at dJ
        exact dJ
    · have ei : i = (exitsL ps p).length := by omega
      rw [ei, List.take_length] at dG
      refine .inl ⟨⟨_, SqL.of elG, by omega⟩, ?_⟩
      have dG' : Dts [D] G acc ((trips ps d p q).map tupI) := dG
      obtain ⟨ns, nss, et⟩ : ∃ ns nss, trips ps d p q = ns :: nss := by
        obtain ⟨e, es, h1⟩ := List.exists_cons_of_ne_nil (exits_ne okp)
        obtain ⟨f, fs, h2⟩ := List.exists_cons_of_ne_nil (exits_ne okq)
        refine ⟨trip d e f, fs.map (trip d e) ++ es.flatMap (fun e => (exitsL ps q).map (trip d e)), ?_⟩
        unfold trips
        rw [h1, List.flatMap_cons, h2]; rfl
      rw [et] at dG'
      refine ⟨D, acc, ns, nss, rfl, SqL.of eG, Dts.dp _ _ dG' (lay_tups _), fun t v gv gm => ?_⟩
      have gd : ((ns :: nss).map tupI)[t]? = some (tupI (minL ns nss)) := by rw [List.getElem?_map, gm]; rfl
      obtain ⟨v', gv', dv⟩ := dG'.get t gd
      rw [gv] at gv'; cases gv'
      refine k G v (minL ns nss) (k1.trans kG) dv.nil (by rw [et]; exact minL_mem ns nss) ?_
      rw [et]
      refine minL_head nss ns (fun y hy => ?_)
      rw [← et] at hy
      obtain ⟨e, _, h⟩ := List.mem_flatMap.mp hy
      obtain ⟨f', _, rfl⟩ := List.mem_map.mp h
      intro z; cases z
end
end Rw

namespace Rw
open PySem PySem.Spec PyProof.Rows L2
theorem trips_min {n : Int} {ps : List Pi} {d : Int → Int → Int} (T : Tm n ps d) {p q : Pl} (hp : okP n ps p) (hq : okP n ps q) (ne : onePipe p q = false) {ns : List Int} (m : ns ∈ trips ps d p q) (h : ∀ x ∈ trips ps d p q, ns.headD 0 ≤ x.headD 0) : ns.headD 0 = Dp ps d p q := by
  rcases ok_cases hp with ⟨r, rfl, r0, r1⟩ | ⟨i, b, rfl, h0, h1, b0, b1⟩ <;> rcases ok_cases hq with ⟨t, rfl, t0, t1⟩ | ⟨j, a, rfl, k0, k1, a0, a1⟩
  · have m' : ns ∈ [[0 + d r t + 0, r, t]] := m
    rw [List.mem_singleton.mp m']
    show 0 + d r t + 0 = d r t
    omega
  · have e : trips ps d [r] [j, a] = [[0 + d r (pr ps j).x + a, r, (pr ps j).x], [0 + d r (pr ps j).y + ((pr ps j).l - a), r, (pr ps j).y]] := rfl
    rw [e] at m h
    have g1 := h _ List.mem_cons_self
    have g2 := h _ (List.mem_cons_of_mem _ List.mem_cons_self)
    simp only [List.headD_cons] at g1 g2
    show _ = dr ps d r j a
    unfold dr
    rcases List.mem_cons.mp m with rfl | m
    · simp only [List.headD_cons] at g1 g2 ⊢; omega
    · rw [List.mem_singleton.mp m] at g1 g2 ⊢; simp only [List.headD_cons] at g1 g2 ⊢; omega
  · have e : trips ps d [i, b] [t] = [[b + d (pr ps i).x t + 0, (pr ps i).x, t], [(pr ps i).l - b + d (pr ps i).y t + 0, (pr ps i).y, t]] := rfl
    rw [e] at m h
    have g1 := h _ List.mem_cons_self
    have g2 := h _ (List.mem_cons_of_mem _ List.mem_cons_self)
    simp only [List.headD_cons] at g1 g2
    show _ = dr ps d t i b
    unfold dr
    rw [T.sym t (pr ps i).x, T.sym t (pr ps i).y]
    rcases List.mem_cons.mp m with rfl | m
    · simp only [List.headD_cons] at g1 g2 ⊢; omega
    · rw [List.mem_singleton.mp m] at g1 g2 ⊢; simp only [List.headD_cons] at g1 g2 ⊢; omega
  · have nij : ¬ i = j := fun z => by subst z; simp [onePipe] at ne
    have e : trips ps d [i, b] [j, a] = [[b + d (pr ps i).x (pr ps j).x + a, (pr ps i).x, (pr ps j).x], [b + d (pr ps i).x (pr ps j).y + ((pr ps j).l - a), (pr ps i).x, (pr ps j).y],
      [(pr ps i).l - b + d (pr ps i).y (pr ps j).x + a, (pr ps i).y, (pr ps j).x], [(pr ps i).l - b + d (pr ps i).y (pr ps j).y + ((pr ps j).l - a), (pr ps i).y, (pr ps j).y]] := rfl
    rw [e] at m h
    have g1 := h _ List.mem_cons_self
    have g2 := h _ (List.mem_cons_of_mem _ List.mem_cons_self)
    have g3 := h _ (List.mem_cons_of_mem _ (List.mem_cons_of_mem _ List.mem_cons_self))
    have g4 := h _ (List.mem_cons_of_mem _ (List.mem_cons_of_mem _ (List.mem_cons_of_mem _ List.mem_cons_self)))
    simp only [List.headD_cons] at g1 g2 g3 g4
    show _ = (if i = j then ab b a else min (b + dr ps d (pr ps i).x j a) ((pr ps i).l - b + dr ps d (pr ps i).y j a))
    rw [if_neg nij]
    unfold dr
    rcases List.mem_cons.mp m with rfl | m
    · simp only [List.headD_cons] at g1 g2 g3 g4 ⊢; omega
    · rcases List.mem_cons.mp m with rfl | m
      · simp only [List.headD_cons] at g1 g2 g3 g4 ⊢; omega
      · rcases List.mem_cons.mp m with rfl | m
        · simp only [List.headD_cons] at g1 g2 g3 g4 ⊢; omega
        · rw [List.mem_singleton.mp m] at g1 g2 g3 g4 ⊢; simp only [List.headD_cons] at g1 g2 g3 g4 ⊢; omega
theorem one_pipe {n : Int} {ps : List Pi} {d : Int → Int → Int} {p q : Pl} (hp : okP n ps p) (hq : okP n ps q) (h : onePipe p q = true) : ∃ i a b, p = [i, a] ∧ q = [i, b] ∧ Dp ps d p q = ab a b := by
  rcases ok_cases hp with ⟨r, rfl, _⟩ | ⟨i, a, rfl, _⟩ <;> rcases ok_cases hq with ⟨t, rfl, _⟩ | ⟨j, b, rfl, _⟩
  · cases h
  · cases h
  · cases h
  · have e : i = j := by simpa [onePipe] using h
    subst e
    exact ⟨i, a, b, rfl, rfl, if_pos rfl⟩
theorem abs_ab (a b : Int) : (if a - b < 0 then -(a - b) else a - b) = ab a b := by unfold ab; split <;> split <;> omega
theorem ok_ne {n : Int} {ps : List Pi} {p : Pl} (h : okP n ps p) : p ≠ [] := by
  rcases ok_cases h with ⟨r, rfl, _⟩ | ⟨i, a, rfl, _⟩ <;> (intro z; cases z)
section
variable {P : Program} {w : World} {K : PySem.W.Frag} {mg : Str → Option Value} {base : Heap}
abbrev sGap : Stmt := topS 8
abbrev nGap : List Str := ["plan", "one", "other"]
theorem scGap : FnScope nGap ["plan", "one", "other"] (defScope sGap) := ⟨rfl, rfl, rfl, by decide +kernel, rfl, by decide +kernel, by decide +kernel⟩
def spGap (C : Addr) : Sp := fun vs H Q _ => ∃ (a : Addr) (o1 o2 : V) (n : Int) (ps : List Pi) (d : Int → Int → Int) (p q : Pl), vs = [.ref a, o1, o2] ∧ PlanAt C [] H a n ps d ∧ Tm n ps d ∧ Dt [] H o1 (tupI p) ∧ Dt [] H o2 (tupI q) ∧ okP n ps p ∧ okP n ps q ∧
  ∀ H' : Hp, Keep [] H H' → Q (.int (Dp ps d p q)) H'
theorem ok_gap {C : Addr} (h : Has K mg "gap_of" sGap) (B : Blt mg) (CO : Can P w K mg base "are_in_one_pipe" ["one", "other"] 1 spOnePipe) (CS : Can P w K mg base "shortest" ["plan", "one", "other"] 2 (spShort C)) : Can P w K mg base "gap_of" ["plan", "one", "other"] 3 (spGap C) := by
  obtain ⟨f, fd, F, g⟩ := h
  refine ⟨f, fd, F.ok (k := 2) scGap (fun vs H Q E h => ?_) (fun cdv A outer s H vs Q E hr h => ?_), g, F.kp, F.binds fun _ _ _ _ _ _ us hl => match us, hl with | [_, _, _], _ => rfl⟩
  · obtain ⟨a, o1, o2, n, ps, d, p, q, rfl, _⟩ := h
    rfl
  · obtain ⟨a, o1, o2, n, ps, d, p, q, rfl, pl, T, h1, h2, okp, okq, k⟩ := h
    refine ⟨_, pss_cons (ps_if (pt_val (pe_can CO (hr.mono (by decide)) (by rfl) (pa_cons (pv 1) (pa_cons (pv 2) pa_nil)))) (pss_one (ps_ret (pe_callB call_abs (by rfl) B.abs_ boot_abs (pa_cons (pe_op op_sub (pe_ix ix_tup (pv 1) pe_int (fun _ _ => rfl)) (pe_ix ix_tup (pv 2) pe_int (fun _ _ => rfl))) pa_nil)))) pss_nil)
      (pss_one (ps_ret (pe_ix ix_tup (pe_can CS (hr.mono (by decide)) (by rfl) (pa_cons (pv 0) (pa_cons (pv 1) (pa_cons (pv 2) pa_nil)))) pe_int (fun _ _ => rfl)))), ?_⟩
    refine ⟨o1, rfl, o2, rfl, o1, o2, p, q, rfl, h1, h2, ok_ne okp, ok_ne okq, _, rfl, ?_⟩
    cases c : onePipe p q with
    | true =>
      obtain ⟨i, x, y, rfl, rfl, e⟩ := one_pipe (d := d) okp okq c
      obtain ⟨a1, rfl, _, e1⟩ := tupI_at h1
      obtain ⟨a2, rfl, _, e2⟩ := tupI_at h2
      refine iteT ⟨.ref a1, rfl, a1, _, 1, .int x, rfl, rfl, SqT.of e1, atI_nat (j := 1) rfl, .ref a2, rfl, a2, _, 1, .int y, rfl, rfl, SqT.of e2, atI_nat (j := 1) rfl, x, y, rfl, rfl, x - y, rfl, ?_⟩
      rw [abs_ab, ← e]
      exact k H (Keep.refl _ _)
    | false =>
      refine iteF ⟨.ref a, rfl, o1, rfl, o2, rfl, a, o1, o2, n, ps, d, p, q, rfl, pl, T, h1, h2, okp, okq, fun H' v ns kH dv mn hm => ?_⟩
      obtain ⟨t, rfl, _, et⟩ := tupI_at dv
      have e := trips_min T okp okq c mn hm
      obtain ⟨x, xs, rfl⟩ : ∃ x xs, ns = x :: xs := by
        obtain ⟨e, _, h⟩ := List.mem_flatMap.mp mn
        obtain ⟨f', _, rfl⟩ := List.mem_map.mp h
        exact ⟨_, _, rfl⟩
      refine ⟨t, _, 0, .int x, rfl, rfl, SqT.of et, atI_nat (j := 0) rfl, ?_⟩
      have e' : x = Dp ps d p q := e
      rw [e']
      exact k H' kH
/-! a plan is made -/
theorem plan_made {C : Addr} {H : Hp} {h : V} {n : Int} {ps : List Pi} {d : Int → Int → Int} {av : List Addr} {R : VK} {x dx : Addr} (hh : Dt av H h (houseD n (ps.map Pi.dat))) (hk : HouseOk n ps) (T : Tm n ps d) (tr : Tr av H) (nx : H x = none) (ndx : H dx = none) (ne : dx ≠ x)
    (k : ∀ H' : Hp, Keep [] H H' → Tr av H' → PlanAt C av H' x n ps d → R .non H') : spInit C (.ref x :: ([h] ++ [])) (upd (upd H dx (.own x)) x (.ins C dx [])) R E0 := by
  have nx1 : (upd H dx (.own x)) x = none := by rw [upd_ne ne.symm]; exact nx
  have k0 : Keep [] H (upd (upd H dx (.own x)) x (.ins C dx [])) := (Keep.new ndx).trans (Keep.new nx1)
  refine ⟨x, dx, h, n, ps, d, av, rfl, upd_same, tr.not nx, (hh.more nx).keep k0.of, hk, T, (tr.upd).upd, fun H' kH tr' pl => k H' ?_ tr' pl⟩
  exact Keep.drop nx (fun b o e nb => kH b o (k0 b o e List.not_mem_nil) nb)
end
end Rw

namespace Rw
open PySem PySem.Spec PyProof.Rows L2
def aStr : PyData → Bool
  | .str _ => true
  | _ => false
theorem kit_str (d : PyData) : kitB (tn d) "str" = some (aStr d) := by
  cases d <;> first | exact (show kitB "NoneType" "str" = some false by decide +kernel) | exact (show kitB "bool" "str" = some false by decide +kernel) | exact (show kitB "int" "str" = some false by decide +kernel) | exact (show kitB "str" "str" = some true by decide +kernel) | exact (show kitB "list" "str" = some false by decide +kernel) | exact (show kitB "tuple" "str" = some false by decide +kernel) | exact (show kitB "dict" "str" = some false by decide +kernel) | (rename_i l; cases l <;> first | exact (show kitB "dict" "str" = some false by decide +kernel) | exact (show kitB "tuple" "str" = some false by decide +kernel))
def aLst : PyData → Bool
  | .list _ => true
  | _ => false
theorem kit_lst (d : PyData) : kitB (tn d) "list" = some (aLst d) := by
  cases d <;> first | exact (show kitB "NoneType" "list" = some false by decide +kernel) | exact (show kitB "bool" "list" = some false by decide +kernel) | exact (show kitB "int" "list" = some false by decide +kernel) | exact (show kitB "str" "list" = some false by decide +kernel) | exact (show kitB "list" "list" = some true by decide +kernel) | exact (show kitB "tuple" "list" = some false by decide +kernel) | exact (show kitB "dict" "list" = some false by decide +kernel) | (rename_i l; cases l <;> first | exact (show kitB "dict" "list" = some false by decide +kernel) | exact (show kitB "tuple" "list" = some false by decide +kernel))
theorem kit_int_lt {K : PySem.W.Frag} : PySem.W.kitAny K (.type "int") [.type "list", .type "tuple"] = some false :=
  kitAny_cons (kit_ty (r := false) (by decide +kernel)) (fun _ => kitAny_cons (kit_ty (r := false) (by decide +kernel)) (fun _ => rfl) (fun e => by cases e)) (fun e => by cases e)
theorem kit_tup_lt {K : PySem.W.Frag} : PySem.W.kitAny K (.type "tuple") [.type "list", .type "tuple"] = some true :=
  kitAny_cons (kit_ty (r := false) (by decide +kernel)) (fun _ => kitAny_cons (kit_ty (r := true) (by decide +kernel)) (fun e => by cases e) (fun _ => rfl)) (fun e => by cases e)
end Rw

namespace Rw
open PySem PySem.Spec PyProof.Rows L2
/-! ### the name of a place along a pipe -/
end Rw

namespace Rw
/-! ### distances of places are a metric; what lies on the row between two -/
section
variable {n : Int} {ps : List Pi} {d : Int → Int → Int} (T : Tm n ps d)
include T
theorem Dp_sym {p q : Pl} (hp : okP n ps p) (hq : okP n ps q) : Dp ps d p q = Dp ps d q p := by
  rcases ok_cases hp with ⟨r, rfl, r0, r1⟩ | ⟨i, b, rfl, h0, h1, b0, b1⟩ <;> rcases ok_cases hq with ⟨t, rfl, t0, t1⟩ | ⟨j, a, rfl, k0, k1, a0, a1⟩
  · exact T.sym r t
  · rfl
  · rfl
  · show (if i = j then ab b a else min (b + dr ps d (pr ps i).x j a) ((pr ps i).l - b + dr ps d (pr ps i).y j a)) = (if j = i then ab a b else min (a + dr ps d (pr ps j).x i b) ((pr ps j).l - a + dr ps d (pr ps j).y i b))
    by_cases e : i = j
    · rw [if_pos e, if_pos e.symm]; unfold ab; split <;> split <;> omega
    · rw [if_neg e, if_neg (Ne.symm e)]
      unfold dr
      rw [T.sym (pr ps j).x (pr ps i).x, T.sym (pr ps j).x (pr ps i).y, T.sym (pr ps j).y (pr ps i).x, T.sym (pr ps j).y (pr ps i).y]
      omega
theorem Dp_eq0 {p q : Pl} (hp : okP n ps p) (hq : okP n ps q) (h : Dp ps d p q = 0) : p = q := by
  apply Classical.byContradiction
  intro ne
  obtain ⟨z, az, ez⟩ := Dp_par T hp hq (Ne.symm ne)
  have := Dp_nn T hp (ok_adj T az)
  omega
theorem Dp_pos {p q : Pl} (hp : okP n ps p) (hq : okP n ps q) (h : p ≠ q) : 1 ≤ Dp ps d p q := by
  have h1 := Dp_nn T hp hq
  by_cases e : Dp ps d p q = 0
  · exact absurd (Dp_eq0 T hp hq e) h
  · omega
theorem Dp_tri {x y : Pl} (hx : okP n ps x) (hy : okP n ps y) : ∀ (k : Nat) (z : Pl), okP n ps z → (Dp ps d y z).toNat = k → Dp ps d x z ≤ Dp ps d x y + Dp ps d y z
  | 0, z, hz, e => by
    have h1 := Dp_nn T hy hz
    have e0 := Dp_eq0 T hy hz (by omega)
    subst e0
    omega
  | k + 1, z, hz, e => by
    have h1 := Dp_nn T hy hz
    have ne : z ≠ y := fun w => by rw [w, Dp_self T hy] at e; cases e
    obtain ⟨u, au, eu⟩ := Dp_par T hy hz ne
    have ou := ok_adj T au
    have ih := Dp_tri hx hy k u ou (by omega)
    have st := Dp_step T hx au
    omega
theorem Dp_le {x y z : Pl} (hx : okP n ps x) (hy : okP n ps y) (hz : okP n ps z) : Dp ps d x z ≤ Dp ps d x y + Dp ps d y z := Dp_tri T hx hy _ z hz rfl
/-! on the row between two: the sums -/
def Btw (ps : List Pi) (d : Int → Int → Int) (x z y : Pl) : Prop := Dp ps d x y + Dp ps d y z = Dp ps d x z
/-! the one nearer to x, from z on: between y and z, too -/
theorem btw_par {x y z u : Pl} (hx : okP n ps x) (hy : okP n ps y) (hz : okP n ps z) (h : Btw ps d x z y) (ne : y ≠ z) (au : Adj ps z u) (eu : Dp ps d x z = Dp ps d x u + 1) : Btw ps d x u y ∧ Dp ps d y z = Dp ps d y u + 1 := by
  obtain ⟨w, aw, ew⟩ := Dp_par T hy hz (Ne.symm ne)
  have ow := ok_adj T aw
  have t := Dp_le T hx hy ow
  have s := Dp_step T hx aw
  unfold Btw at h
  have e : Dp ps d x z = Dp ps d x w + 1 := by omega
  have : u = w := Dp_uni T hx hz au aw eu e
  subst this
  exact ⟨by unfold Btw; omega, ew⟩
theorem btw_up {x y z u : Pl} (hx : okP n ps x) (hy : okP n ps y) (hz : okP n ps z) (h : Btw ps d x u y) (au : Adj ps z u) (eu : Dp ps d x z = Dp ps d x u + 1) : Btw ps d x z y := by
  have t := Dp_le T hx hy hz
  have s := Dp_step T hy au
  have ou := ok_adj T au
  unfold Btw at h ⊢
  have t2 := Dp_le T hx hy ou
  omega
theorem btw_refl {x z : Pl} (hx : okP n ps x) (hz : okP n ps z) : Btw ps d x z x ∧ Btw ps d x z z := by
  unfold Btw
  rw [Dp_self T hx, Dp_self T hz]
  omega
/-! two places on the row, as far from its beginning, are one -/
theorem btw_one {x y y' : Pl} (hx : okP n ps x) (hy : okP n ps y) (hy' : okP n ps y') : ∀ (k : Nat) (z : Pl), okP n ps z → (Dp ps d y z).toNat = k → Btw ps d x z y → Btw ps d x z y' → Dp ps d x y = Dp ps d x y' → y = y'
  | 0, z, hz, e, h, h', ed => by
    have h1 := Dp_nn T hy hz
    have h2 := Dp_nn T hy' hz
    unfold Btw at h h'
    rw [Dp_eq0 T hy hz (by omega), Dp_eq0 T hy' hz (by omega)]
  | k + 1, z, hz, e, h, h', ed => by
    have h1 := Dp_nn T hy hz
    have h2 := Dp_nn T hy' hz
    have b1 : y ≠ z := fun w => by rw [w, Dp_self T hz] at e; cases e
    have b2 : y' ≠ z := fun w => by
      unfold Btw at h h'
      rw [w, Dp_self T hz] at h'
      have := Dp_eq0 T hy hz (by rw [w] at ed; omega)
      exact b1 this
    have nx : z ≠ x := fun w => by
      unfold Btw at h
      rw [w, Dp_self T hx] at h
      have := Dp_nn T hx hy
      have := Dp_nn T hy hx
      rw [w] at h1
      exact b1 (by rw [w]; exact Dp_eq0 T hy hx (by omega))
    obtain ⟨u, au, eu⟩ := Dp_par T hx hz nx
    have p1 := btw_par T hx hy hz h b1 au eu
    have p2 := btw_par T hx hy' hz h' b2 au eu
    exact btw_one hx hy hy' k u (ok_adj T au) (by omega) p1.1 p2.1 ed
end
end Rw

namespace Rw
/-! ### steps, one by one -/
def AdjTo (ps : List Pi) (i k : Int) (p q : Pl) : Prop := ∃ j a : Int, 0 ≤ j ∧ (j < i ∧ 0 ≤ a ∧ a < (pr ps j).l ∨ j = i ∧ 0 ≤ a ∧ a < k) ∧ ((p = nm ps j a ∧ q = nm ps j (a + 1)) ∨ (q = nm ps j a ∧ p = nm ps j (a + 1)))
theorem AdjTo.all {ps : List Pi} {p q : Pl} : AdjTo ps ps.length 0 p q ↔ Adj ps p q := by
  constructor
  · rintro ⟨j, a, h0, h | h, r⟩
    · exact ⟨j, a, h0, h.1, h.2.1, h.2.2, r⟩
    · omega
  · rintro ⟨j, a, h0, h1, h2, h3, r⟩
    exact ⟨j, a, h0, .inl ⟨h1, h2, h3⟩, r⟩
theorem AdjTo.next {ps : List Pi} {i : Int} (hi : 0 ≤ i) {p q : Pl} : AdjTo ps i (pr ps i).l p q ↔ AdjTo ps (i + 1) 0 p q := by
  constructor
  · rintro ⟨j, a, h0, h | h, r⟩
    · exact ⟨j, a, h0, .inl ⟨by omega, h.2.1, h.2.2⟩, r⟩
    · exact ⟨j, a, h0, .inl ⟨by omega, h.2.1, by rw [h.1]; exact h.2.2⟩, r⟩
  · rintro ⟨j, a, h0, h | h, r⟩
    · by_cases e : j = i
      · exact ⟨j, a, h0, .inr ⟨e, h.2.1, by rw [← e]; exact h.2.2⟩, r⟩
      · exact ⟨j, a, h0, .inl ⟨by omega, h.2.1, h.2.2⟩, r⟩
    · omega
theorem AdjTo.step {ps : List Pi} {i k : Int} (hi : 0 ≤ i) (hk : 0 ≤ k) {p q : Pl} : AdjTo ps i (k + 1) p q ↔ (AdjTo ps i k p q ∨ (p = nm ps i k ∧ q = nm ps i (k + 1))) ∨ (p = nm ps i (k + 1) ∧ q = nm ps i k) := by
  constructor
  · rintro ⟨j, a, h0, h | h, r⟩
    · exact .inl (.inl ⟨j, a, h0, .inl h, r⟩)
    · by_cases e : a = k
      · obtain ⟨rfl, _⟩ := h
        subst e
        rcases r with ⟨r1, r2⟩ | ⟨r1, r2⟩
        · exact .inl (.inr ⟨r1, r2⟩)
        · exact .inr ⟨r2, r1⟩
      · exact .inl (.inl ⟨j, a, h0, .inr ⟨h.1, h.2.1, by omega⟩, r⟩)
  · rintro ((⟨j, a, h0, h | h, r⟩ | ⟨r1, r2⟩) | ⟨r1, r2⟩)
    · exact ⟨j, a, h0, .inl h, r⟩
    · exact ⟨j, a, h0, .inr ⟨h.1, h.2.1, by omega⟩, r⟩
    · exact ⟨i, k, hi, .inr ⟨rfl, hk, by omega⟩, .inl ⟨r1, r2⟩⟩
    · exact ⟨i, k, hi, .inr ⟨rfl, hk, by omega⟩, .inr ⟨r2, r1⟩⟩
section
variable {n : Int} {ps : List Pi} {d : Int → Int → Int} (T : Tm n ps d)
include T
theorem nm_inj {i a b : Int} (h0 : 0 ≤ i) (h1 : i < ps.length) (a0 : 0 ≤ a) (a1 : a ≤ (pr ps i).l) (b0 : 0 ≤ b) (b1 : b ≤ (pr ps i).l) (h : nm ps i a = nm ps i b) : a = b := by
  have o := (T.own h0 h1).2.2
  have l1 := (T.at h0 h1).2.2.2.2
  by_cases ea : a = 0
  · subst ea
    rw [nm_0] at h
    rcases nm_one h.symm with ⟨z, _⟩ | ⟨_, z⟩
    · exact z.symm
    · exact absurd z.symm o
  · by_cases el : a = (pr ps i).l
    · rw [el, nm_l (by omega)] at h
      rcases nm_one h.symm with ⟨_, z⟩ | ⟨z, _⟩
      · exact absurd z o
      · rw [el, z]
    · rw [nm_mid ea el] at h
      obtain ⟨_, z, _, _⟩ := nm_two h.symm
      exact z.symm
/-! one step has one name -/
theorem step_one {i a j b : Int} (h0 : 0 ≤ i) (h1 : i < ps.length) (a0 : 0 ≤ a) (a1 : a < (pr ps i).l) (k0 : 0 ≤ j) (k1 : j < ps.length) (b0 : 0 ≤ b) (b1 : b < (pr ps j).l)
    (h : (nm ps i a = nm ps j b ∧ nm ps i (a + 1) = nm ps j (b + 1)) ∨ (nm ps i a = nm ps j (b + 1) ∧ nm ps i (a + 1) = nm ps j b)) : i = j ∧ a = b := by
  have same : i = j → a = b := fun e => by
    subst e
    rcases h with ⟨z, _⟩ | ⟨z1, z2⟩
    · exact nm_inj T h0 h1 a0 (by omega) b0 (by omega) z
    · have w1 := nm_inj T h0 h1 a0 (by omega) (by omega) (by omega) z1
      have w2 := nm_inj T h0 h1 (by omega) (by omega) b0 (by omega) z2
      omega
  suffices i = j from ⟨this, same this⟩
  by_cases e0 : a = 0
  · by_cases e1 : a + 1 = (pr ps i).l
    · -- a pipe of one step
      subst e0
      have x1 : nm ps i 0 = [(pr ps i).x] := nm_0 ps i
      have x2 : nm ps i (0 + 1) = [(pr ps i).y] := by rw [e1, nm_l (by omega)]
      rw [x1, x2] at h
      have ob : b = 0 ∧ b + 1 = (pr ps j).l := by
        rcases h with ⟨z1, z2⟩ | ⟨z1, z2⟩
        · rcases nm_one z1.symm with ⟨w, _⟩ | ⟨w, _⟩ <;> rcases nm_one z2.symm with ⟨u, _⟩ | ⟨u, _⟩ <;> omega
        · rcases nm_one z1.symm with ⟨w, _⟩ | ⟨w, _⟩ <;> rcases nm_one z2.symm with ⟨u, _⟩ | ⟨u, _⟩ <;> omega
      obtain ⟨rfl, ob⟩ := ob
      have y1 : nm ps j 0 = [(pr ps j).x] := nm_0 ps j
      have y2 : nm ps j (0 + 1) = [(pr ps j).y] := by rw [ob, nm_l (by omega)]
      rw [y1, y2] at h
      obtain ⟨p0, p1, p2, p3, _⟩ := T.at h0 h1
      have o1 := (T.own h0 h1).1
      have z0 := T.zero (pr ps i).x
      have d1 : Dn ps d (pr ps i).x (pr ps i).y i.toNat := ⟨_, (pr_mem h0 h1).2, .inr ⟨rfl, by omega⟩⟩
      have d2 : Dn ps d (pr ps i).x (pr ps i).y j.toNat := by
        refine ⟨_, (pr_mem k0 k1).2, ?_⟩
        rcases h with ⟨z1, z2⟩ | ⟨z1, z2⟩
        · have w1 : (pr ps i).x = (pr ps j).x := by simpa using z1
          have w2 : (pr ps i).y = (pr ps j).y := by simpa using z2
          exact .inr ⟨w2.symm, by rw [← w1]; omega⟩
        · have w1 : (pr ps i).x = (pr ps j).y := by simpa using z1
          have w2 : (pr ps i).y = (pr ps j).x := by simpa using z2
          exact .inl ⟨w2.symm, by rw [← w1]; omega⟩
      have := T.uni _ _ _ _ p0 p1 p2 p3 d1 d2
      omega
    · have m : nm ps i (a + 1) = [i, a + 1] := nm_mid (by omega) e1
      rw [m] at h
      rcases h with ⟨_, z⟩ | ⟨_, z⟩
      · exact (nm_two z.symm).1.symm
      · exact (nm_two z.symm).1.symm
  · have m : nm ps i a = [i, a] := nm_mid e0 (by omega)
    rw [m] at h
    rcases h with ⟨z, _⟩ | ⟨z, _⟩
    · exact (nm_two z.symm).1.symm
    · exact (nm_two z.symm).1.symm
theorem not_yet {i k : Int} (h0 : 0 ≤ i) (h1 : i < ps.length) (k0 : 0 ≤ k) (k1 : k < (pr ps i).l) : ¬ AdjTo ps i k (nm ps i k) (nm ps i (k + 1)) := by
  rintro ⟨j, a, j0, h | h, r⟩
  · have z := step_one T h0 h1 k0 k1 j0 (by omega) h.2.1 h.2.2 (r.elim (fun w => .inl w) (fun w => .inr ⟨w.2, w.1⟩))
    omega
  · obtain ⟨rfl, a0, a1⟩ := h
    have z := step_one T h0 h1 k0 k1 h0 h1 a0 (by omega) (r.elim (fun w => .inl w) (fun w => .inr ⟨w.2, w.1⟩))
    omega
theorem AdjTo.sym' {i k : Int} {p q : Pl} (h : AdjTo ps i k p q) : AdjTo ps i k q p := by
  obtain ⟨j, a, h0, h1, r⟩ := h
  exact ⟨j, a, h0, h1, r.symm⟩
theorem nm_next {i k : Int} (h0 : 0 ≤ i) (h1 : i < ps.length) (k0 : 0 ≤ k) (k1 : k < (pr ps i).l) : nm ps i k ≠ nm ps i (k + 1) := fun z => by
  have := nm_inj T h0 h1 k0 (by omega) (by omega) (by omega) z
  omega
end
end Rw

namespace Rw
open PySem PySem.Spec PyProof.Rows L2
/-! ### the places next to each place, in a dict -/
def keyOf (p : Pl) : List Key := p.map Sum.inl
theorem keyOf_kV (p : Pl) : (keyOf p).map kV = p.map V.int := by unfold keyOf; rw [List.map_map]; rfl
theorem keyOf_inj {p q : Pl} (h : keyOf p = keyOf q) : p = q := by
  unfold keyOf at h
  have f : ∀ l : Pl, (l.map (Sum.inl : Int → Key)).map (fun k => match k with | .inl i => i | .inr _ => 0) = l := fun l => by
    rw [List.map_map]; exact (List.map_congr_left fun _ _ => rfl).trans (List.map_id l)
  rw [← f p, ← f q, h]
def Bes (av : List Addr) (G : Hp) (kvs : List (List Key × V)) (R : Pl → Pl → Prop) (n : Int) (ps : List Pi) (m : Nat) : Prop :=
  kvs.length ≤ m ∧ (∀ kv ∈ kvs, ∃ p, okP n ps p ∧ kv.1 = keyOf p) ∧ ∀ p : Pl, (valV kvs (keyOf p) = none ∧ ∀ q, ¬ R p q) ∨
    ∃ (L : Addr) (us : List V) (qs : List Pl), valV kvs (keyOf p) = some (.ref L) ∧ L ∉ av ∧ G L = some (.lst us) ∧ Dts av G us (qs.map tupI) ∧ us.length ≤ m ∧ qs.Nodup ∧ ∀ q, q ∈ qs ↔ R p q
theorem Bes.keep {av : List Addr} {G G' : Hp} {kvs : List (List Key × V)} {R : Pl → Pl → Prop} {n : Int} {ps : List Pi} {m : Nat} (h : Bes av G kvs R n ps m) (k : Keep av G G') : Bes av G' kvs R n ps m := by
  refine ⟨h.1, h.2.1, fun p => ?_⟩
  rcases h.2.2 p with z | ⟨L, us, qs, h1, h2, h3, h4, h5⟩
  · exact .inl z
  · exact .inr ⟨L, us, qs, h1, h2, k L _ h3 h2, h4.keep k, h5⟩
theorem Bes.put {av : List Addr} {G : Hp} {kvs : List (List Key × V)} {R R' : Pl → Pl → Prop} {n : Int} {ps : List Pi} {m : Nat} (h : Bes av G kvs R n ps m) {p : Pl} {L : Addr} {us : List V} {qs : List Pl} (ok : okP n ps p) (nL : L ∉ av) (eL : G L = some (.lst us)) (du : Dts av G us (qs.map tupI)) (lu : us.length ≤ m + 1) (ndq : qs.Nodup)
    (hq : ∀ q, q ∈ qs ↔ R' p q) (ho : ∀ p', p' ≠ p → ∀ q, R' p' q ↔ R p' q) : Bes av G (putK kvs (keyOf p) (.ref L)) R' n ps (m + 1) := by
  refine ⟨Nat.le_trans (DSub.putK_len _ _ _) (Nat.add_le_add_right h.1 1), fun kv hkv => ?_, fun p' => ?_⟩
  · unfold putK at hkv
    split at hkv
    · obtain ⟨kv', m', e⟩ := List.mem_map.mp hkv
      obtain ⟨r, o, er⟩ := h.2.1 kv' m'
      refine ⟨r, o, ?_⟩
      rw [← e]
      split <;> exact er
    · rcases List.mem_append.mp hkv with z | z
      · exact h.2.1 kv z
      · rw [List.mem_singleton.mp z]; exact ⟨p, ok, rfl⟩
  · rw [valV_put]
    by_cases e : p' = p
    · subst e
      rw [if_pos rfl]
      exact .inr ⟨L, us, qs, rfl, nL, eL, du, lu, ndq, hq⟩
    · rw [if_neg (fun z => e (keyOf_inj z))]
      rcases h.2.2 p' with z | ⟨L', us', qs', h1, h2, h3, h4, h5, h7, h6⟩
      · exact .inl ⟨z.1, fun q w => z.2 q ((ho p' e q).mp w)⟩
      · exact .inr ⟨L', us', qs', h1, h2, h3, h4, by omega, h7, fun q => (h6 q).trans (ho p' e q).symm⟩
/-! what get tells, with a new empty list as the other answer -/
theorem Bes.get {av : List Addr} {G : Hp} {kvs : List (List Key × V)} {R : Pl → Pl → Prop} {n : Int} {ps : List Pi} {m : Nat} (h : Bes av G kvs R n ps m) (tr : Tr av G) {E : Addr} (nE : G E = none) (p : Pl) :
    ∃ (L : Addr) (us : List V) (qs : List Pl), (valV kvs (keyOf p)).getD (.ref E) = .ref L ∧ (upd G E (.lst [])) L = some (.lst us) ∧ Dts av (upd G E (.lst [])) us (qs.map tupI) ∧ us.length ≤ m ∧ qs.Nodup ∧ ∀ q, q ∈ qs ↔ R p q := by
  rcases h.2.2 p with ⟨z1, z2⟩ | ⟨L, us, qs, h1, h2, h3, h4, h5, h6⟩
  · exact ⟨E, [], [], by rw [z1]; rfl, upd_same, .nil, Nat.zero_le _, List.nodup_nil, fun q => ⟨fun w => absurd w List.not_mem_nil, fun w => absurd w (z2 q)⟩⟩
  · exact ⟨L, us, qs, by rw [h1]; rfl, by rw [upd_ne (ne_of_none h3 nE)]; exact h3, h4.keep (Keep.new nE), h5, h6⟩
theorem bes_put2 {H J : Hp} {Fd E L1 N : Addr} {av : List Addr} {kvs : List (List Key × V)} {R : Pl → Pl → Prop} {n : Int} {ps : List Pi} {m : Nat} {p q : Pl} {us0 : List V} {qs0 : List Pl} {vq : V} (nF : H Fd = none) (kH : Keep [] H J) (tJ : Tr (Fd :: av) J) (eF : J Fd = some (.dT kvs)) (bF : Bes (Fd :: av) J kvs R n ps m)
    (rF : ∀ r : Int, 0 ≤ r → r < n → valV kvs (keyOf [r]) ≠ none) (ok : okP n ps p) (dq : Dt (Fd :: av) J vq (tupI q)) (nE : J E = none) (nL : (upd J E (.lst [])) L1 = none) (nN : (upd (upd J E (.lst [])) L1 (.lst [vq])) N = none) (d0 : Dts (Fd :: av) (upd J E (.lst [])) us0 (qs0.map tupI)) (l0 : us0.length ≤ m) (h0 : qs0.Nodup ∧ ∀ z, z ∈ qs0 ↔ R p z) (nR : ¬ R p q) :
    ∀ G4, G4 = upd (upd (upd (upd J E (.lst [])) L1 (.lst [vq])) N (.lst (us0 ++ [vq]))) Fd (.dT (putK kvs (keyOf p) (.ref N))) → Keep [Fd] J G4 ∧ Keep [] H G4 ∧ Tr (Fd :: av) G4 ∧ G4 Fd = some (.dT (putK kvs (keyOf p) (.ref N))) ∧ Bes (Fd :: av) G4 (putK kvs (keyOf p) (.ref N)) (fun a b => R a b ∨ (a = p ∧ b = q)) n ps (m + 1) ∧ ∀ r : Int, 0 ≤ r → r < n → valV (putK kvs (keyOf p) (.ref N)) (keyOf [r]) ≠ none := by
  rintro _ rfl
  have kE : Keep [] J (upd J E (.lst [])) := Keep.new nE
  have kL : Keep [] (upd J E (.lst [])) (upd (upd J E (.lst [])) L1 (.lst [vq])) := Keep.new nL
  have kN : Keep [] (upd (upd J E (.lst [])) L1 (.lst [vq])) (upd (upd (upd J E (.lst [])) L1 (.lst [vq])) N (.lst (us0 ++ [vq]))) := Keep.new nN
  have k3 := kE.trans (kL.trans kN)
  have t2 : Tr (Fd :: av) (upd (upd J E (.lst [])) L1 (.lst [vq])) := (tJ.upd).upd
  refine ⟨k3.of.trans (Keep.put List.mem_cons_self), (kH.trans k3).upd nF, (t2.upd).upd, upd_same, ?_, fun r r0 r1 => ?_⟩
  · refine ((bF.keep k3.of).put (R' := fun a b => R a b ∨ (a = p ∧ b = q)) (p := p) (L := N) (us := us0 ++ [vq]) (qs := qs0 ++ [q]) ok (t2.not nN) upd_same ?_ (by rw [List.length_append]; exact Nat.add_le_add_right l0 1) (List.nodup_append.mpr ⟨h0.1, by simp, fun a ha b hb z => nR ((h0.2 q).mp (by rw [← List.mem_singleton.mp hb, ← z]; exact ha))⟩) (fun z => ?_) (fun p' ne z => ?_)).keep (Keep.put List.mem_cons_self)
    · rw [List.map_append]
      exact ((d0.keep (kL.trans kN).of).app (.cons (dq.keep k3.of) .nil))
    · rw [List.mem_append, List.mem_singleton, h0.2 z]
      exact ⟨fun w => w.elim .inl (fun e => .inr ⟨rfl, e⟩), fun w => w.elim .inl (fun e => .inr e.2)⟩
    · exact ⟨fun w => w.elim id (fun e => absurd e.1 ne), .inl⟩
  · rw [valV_put]
    split
    · intro z; cases z
    · exact rF r r0 r1
end Rw

namespace Rw
open PySem PySem.Spec PyProof.Rows L2
/-! ### {t: v}, the key a tuple -/
def tDispT (trs : List (TE × TE)) : TE := fun σ H Q => ∀ p, H p = none → tPairs trs σ (upd H p (.dT [])) fun ps H2 => H2 p = some (.dT []) ∧ ∃ (b : Addr) (k : List Key) (v : V), ps = [(.ref b, v)] ∧ H2 b = some (.tup (k.map kV)) ∧ Q (.ref p) (upd H2 p (.dT [(k, v)]))
theorem pe_dispT {X : Cx} {pos : Pos} {k v : Expr} {trs : List (TE × TE)} (hu : X.A.units + 1 < cLine) (h : PPs X pos [some k] [v] trs) : PE X (.Dict [some k] [v] pos) (tDispT trs) := by
  refine ⟨fun pins s σ H Q I q => ?_⟩
  have nw := I.hok.fresh (Nat.le_refl s.heap.objs.size)
  have I1 := I.laid (a := s.heap.objs.size) (o := .dT []) (h' := s.heap.push { cls := .type "dict", data := .dict #[] }) (t' := s.toks) (fun _ _ z => Heap.get?_push_of_some _ z) (Nat.le_refl _) (dt_empty s.heap I.big)
  have one : (pairTrees [some k] [v] X.env pos).length = 1 := pairTrees_length [some k] [v] X.env pos rfl rfl
  have ne : pairTrees [some k] [v] X.env pos ≠ [] := fun z => by rw [z] at one; cases one
  rw [arm_eval_Dict, zip_pairTrees [some k] [v] X.env pos rfl rfl, dictDisplay_pairs _ ne (by omega)]
  refine wpAny_bind (wpAny_standAt (wpAny_bind (wpAny_subDictH (knd := tupleKind (mixKind X.prog X.w)) (show X.A.units < cLine by omega) (by omega) (thn (h.run pins _ σ _ _ I1 (q _ nw)) fun ws s2 ⟨ps, H2, I2, rel, e, b, kk, y, eps, eb, q2⟩ => ?_))))
  subst eps
  cases rel with
  | @cons p1 w1 _ ws' hp hr =>
    cases hr
    obtain ⟨wk, wv⟩ := w1
    obtain ⟨rk, rv⟩ := hp
    cases (show wk = Value.ref b from rk)
    obtain ⟨z, hd, xs, rx, dd⟩ := dt_of I2.hok e
    cases rx
    refine ⟨[(kk, b, wv)], ⟨rfl, rfl, key_of I2.hok eb, trivial⟩, dd, fun h' tk dd' hs => wpAny_pure ⟨.ref s.heap.objs.size, _, ?_, rfl, q2⟩⟩
    obtain ⟨o, es, ep, ho, h2, h3, h4, _, h5⟩ := dd'
    have ebN : b ≠ s.heap.objs.size := fun c => by
      rw [c] at eb
      rw [eb] at e
      cases e
    refine d_write I2 (by rw [e]; exact True.intro) hs ⟨o, ho⟩ ⟨by show 1 ≤ sizeLine; decide, hd, [(kk, b, wv)], .cons ⟨rfl, by rw [upd_ne ebN]; exact eb, rv⟩ .nil, o, es, ep, ho, h2, h3, h4, h5⟩
end Rw

namespace Rw
open PySem PySem.Spec PyProof.Rows L2
/-! ### sorted of a list of tuples of ints, of any lengths -/
abbrev VI := V × List Int
def encVI (b : VI) : PyData := tupI b.2
def leI (a b : List Int) : Bool := !decide (b < a)
theorem dataLe_VI : PySem.W.dataLe false encVI = fun a b => leI a.2 b.2 := by
  funext a b
  rw [PySem.W.dataLe_eq]
  show (!PySem.W.dataLt (.tuple (b.2.map .int)) (.tuple (a.2.map .int))) = _
  rw [PySem.W.dataLt_tuple]
  unfold leI
  exact congrArg _ (PySem.W.dataLt_ints b.2 a.2)
def sortVI (bs : List VI) : List VI := bs.mergeSort (fun a b => leI a.2 b.2)
theorem each_vals : ∀ {bs : List VI} {us : List Value}, Vals (bs.map (·.1)) us → PySem.W.EachIs (fun u b => RelV b.1 u) us bs
  | [], _, h => by cases h; exact .nil
  | b :: bs, _, h => by
    cases h with
    | cons r t => exact .cons r (each_vals t)
theorem vals_each : ∀ {bs : List VI} {us : List Value}, PySem.W.EachIs (fun u b => RelV b.1 u) us bs → Vals (bs.map (·.1)) us
  | _, _, .nil => .nil
  | _, _, .cons r t => .cons r (vals_each t)
theorem each_reads {h : Heap} : ∀ {bs : List VI} {us : List Value} {as : List Addr}, ReadsAll h us (bs.map encVI) as → PySem.W.EachIs (fun u b => ∃ as, Reads h u (encVI b) as) us bs
  | [], _, _, h => by cases h; exact .nil
  | b :: bs, _, _, h => by
    cases h with
    | cons r t => exact .cons ⟨_, r⟩ (each_reads t)
def rSortVI (K : PySem.W.Frag) : List V → Hp → VK → Prop := fun vs H Q => ∃ (a : Addr) (bs : List VI), vs = [.ref a] ∧ SqL K H a (bs.map (·.1)) ∧ DpAll K H (bs.map (·.1)) (bs.map encVI) ∧ (∀ b ∈ bs, b.2 ≠ []) ∧ bs.length ≤ 1000 ∧
  ∀ p, H p = none → Q (.ref p) (upd H p (.lst ((sortVI bs).map (·.1))))
theorem cr_sortVI {X : Cx} (hu : X.A.units + 10 < cLine) : CallR X (.builtin "sorted") (rSortVI X.K) := by
  intro pins s σ H vs us Q I r h
  obtain ⟨a, bs, rfl, sq, dp, hn, hl, q⟩ := h
  obtain ⟨its, rv, isl, _⟩ := I.list sq
  rw [Vals.ref1 r]
  obtain ⟨as, rd⟩ := Dp.readsAll I _ _ its dp rv
  refine PySem.W.sorted_data (bs := bs) (enc := encVI) (R := fun u b => RelV b.1 u) isl.isList (each_vals rv) (each_reads rd) (PySem.W.AllAlike.of fun b b' => ?_) (.inl fun d hd => ?_) (Nat.le_trans hl (small1000 (by omega))) (fun b hb => ?_) (fun out lo ho => ?_)
  · exact (tupI_alike [b.2, b'.2]).1 _ List.mem_cons_self _ (List.mem_cons_of_mem _ List.mem_cons_self)
  · obtain ⟨b, hb, rfl⟩ := List.mem_map.mp hd
    obtain ⟨x, xs, e⟩ := List.exists_cons_of_ne_nil (hn b hb)
    exact ⟨.int x, xs.map .int, by unfold encVI tupI; rw [e]; rfl⟩
  · have := tupI_depth [b.2]
    have e : PyData.depthAll ([b.2].map tupI) = max (PyData.depth (encVI b)) 0 := rfl
    omega
  · rw [dataLe_VI] at ho
    obtain ⟨ep, he⟩ := PyProof.Rows.sortedAll_at s.heap its out.toArray
    have hv : Vals ((sortVI bs).map (·.1)) out := vals_each ho
    have hlen : ((sortVI bs).map (·.1)).length ≤ sizeLine := by rw [hv.length, lo]; exact Nat.le_trans hl (small1000 (by omega))
    exact ⟨.ref _, upd H (s.heap.objs.size + 1) (.lst ((sortVI bs).map (·.1))), I.laid (t' := s.toks) (fun _ _ => PyProof.Rows.sortedAll_old) (Nat.le_succ _) ⟨hlen, out, ep, hv, by simpa using he⟩, rfl, q _ (I.hok.fresh (Nat.le_succ _))⟩
end Rw

namespace Rw
open PySem PySem.Spec PyProof.Rows L2
section
variable {X : Cx}
/-! new lists stand elsewhere than the modules' table -/
def tLstN (t : TA) : TE := fun σ H Q => t σ H fun xs H1 => xs.length ≤ sizeLine ∧ ∀ p, H1 p = none → p ≠ sysModules → Q (.ref p) (upd H1 p (.lst xs))
theorem pe_lstN {es : List Expr} {t : TA} {pos : Pos} (h : PA X es t) : PE X (.List es pos) (tLstN t) :=
  ⟨fun pins s σ H Q I hq => wpAny_List_spliced (thn (h.run pos pins s σ H _ I hq) fun us s1 ⟨xs, H1, I1, r, z, q⟩ => ⟨by rw [← r.length]; exact z,
    ⟨.ref s1.heap.objs.size, _, I1.laid (t' := s1.toks) (fun b u e => Heap.get?_push_of_some _ e) (Nat.le_refl _) (show ObjOk X.prog X.w _ _ _ (.lst xs) from ⟨z, us, 0, r, Heap.get?_push_size _ rfl⟩), rfl, q _ (I1.hok.fresh (Nat.le_refl _)) (Nat.ne_of_gt I1.big)⟩⟩)⟩
end
end Rw

namespace Rw
open PySem PySem.Spec PyProof.Rows L2
/-! rules that several laws' own defs want -/
theorem abs_nn (i : Int) : 0 ≤ (if i < 0 then -i else i) := by split <;> omega
theorem st {H : Hp} {p b : Addr} {o u : HO} (n : H p = none) (e : H b = some u) : (upd H p o) b = some u := by rw [upd_ne (ne_of_none e n)]; exact e
variable {X : Cx}
def rNilL (K : PySem.W.Frag) (neg : Bool) : R2 := fun x y H Q => ∃ a b xs, x = .ref a ∧ y = .ref b ∧ SqL K H a xs ∧ SqL K H b [] ∧ Q (.bl (if neg then !xs.isEmpty else xs.isEmpty)) H
theorem op_neNilL (hu : X.A.units < cLine) : OpR X (compareOp .NotEq) (rNilL X.K true) := by
  intro pins s σ H x y v u Q I rx ry h
  obtain ⟨a, b, xs, rfl, rfl, ha, hb, q⟩ := h
  cases rx
  cases ry
  obtain ⟨its, r, pl, _⟩ := I.list ha
  obtain ⟨its2, r2, pl2, _⟩ := I.list hb
  cases r2
  have fin : EP X pins σ Q (.bool (!xs.isEmpty)) s := ⟨.bl (!xs.isEmpty), H, I, rfl, q⟩
  cases r with
  | nil => exact SeqAt.RcNeAt.lists (A := X.A) (s := s) (e := fun _ => true) pl.isList pl2.isList rfl hu (fun j j1 _ => absurd j1 (Nat.not_lt_zero j)) X.prog X.w X.xe _ fin
  | cons _ _ => exact SeqAt.RcNeAt.lists_lengths (A := X.A) (s := s) pl.isList pl2.isList (by simp) hu X.prog X.w X.xe _ fin
theorem op_eqNilL (hu : X.A.units < cLine) : OpR X (compareOp .Eq) (rNilL X.K false) := by
  intro pins s σ H x y v u Q I rx ry h
  obtain ⟨a, b, xs, rfl, rfl, ha, hb, q⟩ := h
  cases rx
  cases ry
  obtain ⟨its, r, pl, _⟩ := I.list ha
  obtain ⟨its2, r2, pl2, _⟩ := I.list hb
  cases r2
  have fin : EP X pins σ Q (.bool xs.isEmpty) s := ⟨.bl xs.isEmpty, H, I, rfl, q⟩
  cases r with
  | nil => exact SeqAt.RcAt.lists (A := X.A) (s := s) (e := fun _ => true) pl.isList pl2.isList rfl hu (fun j j1 _ => absurd j1 (Nat.not_lt_zero j)) X.prog X.w X.xe _ fin
  | cons _ _ => exact SeqAt.RcAt.lists_lengths (A := X.A) (s := s) pl.isList pl2.isList (by simp) hu X.prog X.w X.xe _ fin
end Rw

namespace Rw
open PySem PySem.Spec PyProof.Rows L2
theorem Tr.kp {av xs : List Addr} {H H' : Hp} (t : Tr av H) (k : Keep xs H H') (e : Tr xs H') : Tr av H' := fun a m => by
  by_cases h : a ∈ xs
  · exact e a h
  · obtain ⟨o, z⟩ := t a m; exact ⟨o, k a o z h⟩
theorem Keep.fre {xs : List Addr} {H H' : Hp} {p : Addr} (k : Keep xs H H') (e : Tr xs H') (n : H' p = none) : H p = none := by
  cases z : H p with
  | none => rfl
  | some o =>
    by_cases h : p ∈ xs
    · obtain ⟨u, q⟩ := e p h; rw [n] at q; cases q
    · have := k p o z h; rw [n] at this; cases this
/-! ### tuples by their data: made, put together, cut -/
theorem tup_new {av : List Addr} {J : Hp} {xs : List V} {ds : List PyData} {Q : VK} (tr : Tr av J) (dx : Dts av J xs ds) (len : xs.length ≤ 1000) (k : ∀ J' r, Keep [] J J' → Tr av J' → J r = none → Dt av J' (.ref r) (.tuple ds) → Q (.ref r) J') : xs.length ≤ sizeLine ∧ ∀ p, J p = none → Q (.ref p) (upd J p (.tup xs)) :=
  ⟨Nat.le_trans len (show 1000 ≤ sizeLine by decide), fun p np => k _ p (Keep.new np) tr.upd np (.tup (tr.not np) upd_same (dx.keep (Keep.new np)))⟩
theorem tup_facts {av : List Addr} {J : Hp} {xs : List V} {ds : List PyData} {p : Addr} (tr : Tr av J) (dx : Dts av J xs ds) (np : J p = none) : Keep [] J (upd J p (.tup xs)) ∧ Tr av (upd J p (.tup xs)) ∧ Dt av (upd J p (.tup xs)) (.ref p) (.tuple ds) :=
  ⟨Keep.new np, tr.upd, .tup (tr.not np) upd_same (dx.keep (Keep.new np))⟩
theorem tup_at {av : List Addr} {J : Hp} {v : V} {ds : List PyData} (h : Dt av J v (.tuple ds)) : ∃ (a : Addr) (xs : List V), v = .ref a ∧ a ∉ av ∧ J a = some (.tup xs) ∧ Dts av J xs ds := by
  cases h with
  | tup n e d => exact ⟨_, _, rfl, n, e, d⟩
theorem cat_data {K : PySem.W.Frag} {av : List Addr} {J : Hp} {x y : V} {dx dy : List PyData} {Q : VK} (hx : Dt av J x (.tuple dx)) (hy : Dt av J y (.tuple dy)) (tr : Tr av J) (len : dx.length + dy.length ≤ 1000) (k : ∀ J' r, Keep [] J J' → Tr av J' → Dt av J' (.ref r) (.tuple (dx ++ dy)) → Q (.ref r) J') : rCatA K x y J Q := by
  obtain ⟨a, xs, rfl, na, ea, da⟩ := tup_at hx
  obtain ⟨b, ys, rfl, nb, eb, db⟩ := tup_at hy
  have lx := da.len
  have ly := db.len
  refine ⟨a, b, xs, ys, rfl, rfl, SqT.of ea, SqT.of eb, Nat.le_trans (by omega : xs.length + ys.length ≤ 1000) (show 1000 ≤ sizeLine by decide), fun z => ?_, fun _ z => ?_, fun _ _ p np => ?_⟩
  · have : dx = [] := List.eq_nil_of_length_eq_zero (by rw [← lx, z]; rfl)
    exact k J b (Keep.refl _ _) tr (by rw [this, List.nil_append]; exact hy)
  · have : dy = [] := List.eq_nil_of_length_eq_zero (by rw [← ly, z]; rfl)
    exact k J a (Keep.refl _ _) tr (by rw [this, List.append_nil]; exact hx)
  · exact k _ p (Keep.new np) tr.upd (.tup (tr.not np) upd_same ((da.app db).keep (Keep.new np)))
theorem six_nat (n d k : Nat) : HT.sIx n d (some (k : Int)) = min k n := HT.sIx_nat ..
theorem front_data {K : PySem.W.Frag} {av : List Addr} {J : Hp} {x : V} {dx : List PyData} {i : Int} {Q : VK} (hx : Dt av J x (.tuple dx)) (tr : Tr av J) (i0 : 0 ≤ i) (k : ∀ J' r, Keep [] J J' → Tr av J' → Dt av J' (.ref r) (.tuple (dx.take i.toNat)) → Q (.ref r) J') : rSlA K x none (some i) J Q := by
  obtain ⟨a, xs, rfl, na, ea, da⟩ := tup_at hx
  have ei : i = ((i.toNat : Nat) : Int) := by omega
  refine ⟨a, xs, rfl, SqT.of ea, fun z => ?_, fun _ p np => ?_⟩
  · have z2 := z.2
    rw [ei, six_nat] at z2
    exact k J a (Keep.refl _ _) tr (by rw [List.take_of_length_le (by rw [← da.len]; omega)]; exact hx)
  · refine k _ p (Keep.new np) tr.upd (.tup (tr.not np) upd_same ?_)
    rw [show cutV xs none (some i) = xs.take i.toNat by have := cut_to xs i.toNat; rw [← ei] at this; exact this]
    exact (da.take _).keep (Keep.new np)
theorem rear_data {K : PySem.W.Frag} {av : List Addr} {J : Hp} {x : V} {dx : List PyData} {i : Int} {Q : VK} (hx : Dt av J x (.tuple dx)) (tr : Tr av J) (i0 : 0 ≤ i) (k : ∀ J' r, Keep [] J J' → Tr av J' → Dt av J' (.ref r) (.tuple (dx.drop i.toNat)) → Q (.ref r) J') : rSlA K x (some i) none J Q := by
  obtain ⟨a, xs, rfl, na, ea, da⟩ := tup_at hx
  have ei : i = ((i.toNat : Nat) : Int) := by omega
  refine ⟨a, xs, rfl, SqT.of ea, fun z => ?_, fun _ p np => ?_⟩
  · have z1 := z.1
    rw [ei, six_nat] at z1
    refine k J a (Keep.refl _ _) tr ?_
    by_cases c : i.toNat = 0
    · rw [c, List.drop_zero]; exact hx
    · have : xs.length = 0 := by omega
      have : dx = [] := List.eq_nil_of_length_eq_zero (by rw [← da.len]; omega)
      rw [this, List.drop_nil, ← this]; exact hx
  · refine k _ p (Keep.new np) tr.upd (.tup (tr.not np) upd_same ?_)
    rw [show cutV xs (some i) none = xs.drop i.toNat by have := cut_from xs i.toNat; rw [← ei] at this; exact this]
    exact (da.drop _).keep (Keep.new np)
end Rw

namespace Rw
open PySem PySem.Spec PyProof.Rows L2 TL
/-! ### numbers in figures -/
abbrev tx (i : Int) : Str := Str.ofString (toString i)
theorem tx_tl {i : Int} (h : 0 ≤ i) : tl (tx i) = numL i.toNat := by
  have e : i = ((i.toNat : Nat) : Int) := by omega
  have z := tl_num i.toNat
  rw [← e] at z
  exact z
theorem tx_len {i : Int} (h : 0 ≤ i) {k : Nat} (hk : 0 < k) (hi : i < ((10 ^ k : Nat) : Int)) : (tx i).length ≤ k := by
  rw [len_tl, tx_tl h]
  exact numL_len hk (by omega)
theorem tx_pos {i : Int} (h : 0 ≤ i) : 1 ≤ (tx i).length := by
  rw [len_tl, tx_tl h]
  exact List.length_pos_iff.mpr (numL_ne _)
theorem tx_free {i : Int} (h : 0 ≤ i) {s : Nat} (hs : s < 48 ∨ 57 < s) : s ∉ tl (tx i) := by
  rw [tx_tl h]; exact numL_free hs
theorem numL_head : ∀ (k n : Nat), n ≤ k → 1 ≤ n → ∃ c r, numL n = c :: r ∧ c ≠ 48
  | 0, n, h, h1 => by omega
  | k + 1, n, h, h1 => by
    by_cases c : n < 10
    · exact ⟨48 + n, [], numL_lt c, by omega⟩
    · obtain ⟨c', r, e, ne⟩ := numL_head k (n / 10) (by omega) (by omega)
      exact ⟨c', r ++ [48 + n % 10], by rw [numL_step (by omega), e]; rfl, ne⟩
theorem tx_head {i : Int} (h : 0 ≤ i) : ∃ c r, tl (tx i) = c :: r ∧ (c = 48 → r = []) := by
  rw [tx_tl h]
  by_cases z : i.toNat = 0
  · rw [z]
    exact ⟨48, [], numL_lt (by decide), fun _ => rfl⟩
  · obtain ⟨c, r, e, ne⟩ := numL_head i.toNat i.toNat (Nat.le_refl _) (by omega)
    exact ⟨c, r, e, fun z => absurd z ne⟩
theorem tx_int {i : Int} (h : 0 ≤ i) (hl : (tx i).length ≤ 640) : intText? (tx i) = some i := by
  have e : i = ((i.toNat : Nat) : Int) := by omega
  have z := int_num (n := i.toNat) (by rw [← tx_tl h, ← len_tl]; omega)
  rw [← e] at z
  exact z
theorem tx_dig {i : Int} (h : 0 ≤ i) : ∀ c ∈ tl (tx i), 48 ≤ c ∧ c ≤ 57 := by
  rw [tx_tl h]
  intro c hc
  by_cases z : c < 48 ∨ 57 < c
  · exact absurd hc (numL_free z)
  · omega
theorem tx_log {i : Int} (h : 0 ≤ i) (hi : i ≤ 1000000000000000) : i.natAbs.log2 < 1920 := by
  have e : i.natAbs < 2 ^ 60 := by have : (2 : Nat) ^ 60 = 1152921504606846976 := by decide
                                   omega
  by_cases z : i.natAbs = 0
  · rw [z]; decide
  · exact Nat.lt_of_lt_of_le ((Nat.log2_lt z).mpr e) (by decide)
/-! texts put together -/
theorem join_one (y a : Str) : Txt.join y [a] = a := by
  rw [join_eq]
  refine ext_tl ?_
  rw [tl_join]; rfl
theorem join_two (y a b : Str) : Txt.join y [a, b] = a ++ y ++ b := by
  rw [join_eq]
  refine ext_tl ?_
  rw [tl_join, tl_append, tl_append]
  simp [joinL]
theorem len_app (a b : Str) : (a ++ b).length = a.length + b.length := by rw [len_tl, len_tl, len_tl, tl_append, List.length_append]
theorem app_assoc (a b c : Str) : a ++ b ++ c = a ++ (b ++ c) := ext_tl (by rw [tl_append, tl_append, tl_append, tl_append, List.append_assoc])
abbrev plusT : Str := Str.ofString "+"
abbrev blankT : Str := Str.ofString " "
abbrev crossT : Str := Str.ofString "x"
theorem plus_tl : tl plusT = [43] := by decide +kernel
theorem blank_tl : tl blankT = [32] := by decide +kernel
theorem cross_tl : tl crossT = [120] := by decide +kernel
def ptx : List Int → Str
  | [i, a] => tx i ++ plusT ++ tx a
  | [r] => tx r
  | _ => Str.empty
def okT : List Int → Prop
  | [i, a] => 0 ≤ i ∧ i < 1000000000000000 ∧ 1 ≤ a ∧ a < 1000000000000000
  | [r] => 0 ≤ r ∧ r < 1000000000000000
  | _ => False
theorem okT_cases {p : List Int} (h : okT p) : (∃ r, p = [r] ∧ 0 ≤ r ∧ r < 1000000000000000) ∨ ∃ i a, p = [i, a] ∧ 0 ≤ i ∧ i < 1000000000000000 ∧ 1 ≤ a ∧ a < 1000000000000000 := by
  match p, h with
  | [r], h => exact .inl ⟨r, rfl, h⟩
  | [i, a], h => exact .inr ⟨i, a, rfl, h⟩
theorem len15 {i : Int} (h : 0 ≤ i) (hi : i < 1000000000000000) : (tx i).length ≤ 15 := tx_len h (by decide) (by have : ((10 ^ 15 : Nat) : Int) = 1000000000000000 := by decide
                                                                                                                 omega)
theorem ptx_len {p : List Int} (h : okT p) : (ptx p).length ≤ 31 := by
  rcases okT_cases h with ⟨r, rfl, r0, r1⟩ | ⟨i, a, rfl, i0, i1, a0, a1⟩
  · have := len15 r0 r1
    show (tx r).length ≤ 31; omega
  · have h1 := len15 i0 i1
    have h2 := len15 (show 0 ≤ a by omega) a1
    have h3 : plusT.length = 1 := by decide +kernel
    show (tx i ++ plusT ++ tx a).length ≤ 31
    rw [len_app, len_app]; omega
theorem ptx_free {p : List Int} (h : okT p) : 32 ∉ tl (ptx p) := by
  rcases okT_cases h with ⟨r, rfl, r0, r1⟩ | ⟨i, a, rfl, i0, i1, a0, a1⟩
  · exact tx_free r0 (by decide)
  · show 32 ∉ tl (tx i ++ plusT ++ tx a)
    rw [tl_append, tl_append, plus_tl]
    intro m
    rcases List.mem_append.mp m with m | m
    · rcases List.mem_append.mp m with m | m
      · exact tx_free i0 (by decide) m
      · simp at m
    · exact tx_free (show 0 ≤ a by omega) (by decide) m
theorem cr_repr_str {X : Cx} : CallR X (.builtin "repr") (fun xs H Q => ∃ a, xs = [.str a] ∧ (reprText a).length ≤ sizeLine ∧ Q (.str (reprText a)) H) := by
  intro pins s σ H args vals Q I r ask
  obtain ⟨a, rfl, hz, q⟩ := ask
  obtain ⟨u, rfl, t, rfl⟩ := vals1 r
  exact PySem.P.repr_of_str ⟨.str _, H, I.tok _, ⟨_, rfl⟩, q⟩ hz
end Rw

namespace Rw
open PySem PySem.Spec PyProof.Rows L2
def whole : PyData → Bool
  | .int _ => true
  | _ => false
def within (d : PyData) (lo hi : Int) : Bool := match d with
  | .int i => decide (lo ≤ i) && decide (i ≤ hi)
  | _ => false
def tupOf (d : PyData) (n : Int) : Bool := match d with
  | .tuple ds => decide ((ds.length : Int) = n)
  | _ => false
/-! ### the program's own defs -/
section
variable {P : Program} {w : World} {K : PySem.W.Frag} {mg : Str → Option Value} {base : Heap}
abbrev sWhole : Stmt := topS 24
abbrev sWithin : Stmt := topS 25
abbrev sTupOf : Stmt := topS 41
theorem scWhole : FnScope ["thing"] ["thing"] (defScope sWhole) := ⟨rfl, rfl, rfl, by decide +kernel, rfl, by decide +kernel, by decide +kernel⟩
theorem scWithin : FnScope ["thing", "low", "high"] ["thing", "low", "high"] (defScope sWithin) := ⟨rfl, rfl, rfl, by decide +kernel, rfl, by decide +kernel, by decide +kernel⟩
theorem scTupOf : FnScope ["thing", "many"] ["thing", "many"] (defScope sTupOf) := ⟨rfl, rfl, rfl, by decide +kernel, rfl, by decide +kernel, by decide +kernel⟩
def spWhole : Sp := fun vs H Q _ => ∃ (v : V) (d : PyData) (av : List Addr), vs = [v] ∧ Dt av H v d ∧ Q (.bl (whole d)) H
theorem ok_whole (h : Has K mg "is_whole" sWhole) (B : Blt mg) : Can P w K mg base "is_whole" ["thing"] 1 spWhole := by
  obtain ⟨f, fd, F, g⟩ := h
  refine ⟨f, fd, F.ok (k := 0) scWhole (fun vs H Q E h => ?_) (fun cdv A outer s H vs Q E hr h => ?_), g, F.kp, F.binds fun _ _ _ _ _ _ us hl => match us, hl with | [_], _ => rfl⟩
  · obtain ⟨v, d, av, rfl, _⟩ := h
    rfl
  · obtain ⟨v, d, av, rfl, hd, q⟩ := h
    refine ⟨_, pss_one (ps_ret (pe_and (pe_callB (call_isD kit_int) (by rfl) B.isi boot_isinstance (pa_cons (pv 0) (pa_cons (pe_bltn (v := .ty "int") (by rfl) B.int_ boot_int rfl) pa_nil)))
      (pe_one (pe_not (pe_callB (call_isD kit_bool) (by rfl) B.isi boot_isinstance (pa_cons (pv 0) (pa_cons (pe_bltn (v := .ty "bool") (by rfl) B.bool_ boot_bool rfl) pa_nil))))))), ?_⟩
    refine ⟨v, rfl, v, d, av, rfl, hd, _, rfl, ite2 (fun e => ?_) (fun e => ?_)⟩
    · refine ⟨v, rfl, v, d, av, rfl, hd, _, rfl, ?_⟩
      have z : (!aBool d) = whole d := by cases d <;> first | rfl | cases e
      rw [z]; exact q
    · have z : false = whole d := by cases d <;> first | rfl | exact absurd rfl e
      rw [z]; exact q
def spWithin : Sp := fun vs H Q _ => ∃ (v : V) (d : PyData) (av : List Addr) (lo hi : Int), vs = [v, .int lo, .int hi] ∧ Dt av H v d ∧ Q (.bl (within d lo hi)) H
theorem ok_within (h : Has K mg "is_within" sWithin) (C : Can P w K mg base "is_whole" ["thing"] 1 spWhole) : Can P w K mg base "is_within" ["thing", "low", "high"] 2 spWithin := by
  obtain ⟨f, fd, F, g⟩ := h
  refine ⟨f, fd, F.ok (k := 1) scWithin (fun vs H Q E h => ?_) (fun cdv A outer s H vs Q E hr h => ?_), g, F.kp, F.binds fun _ _ _ _ _ _ us hl => match us, hl with | [_, _, _], _ => rfl⟩
  · obtain ⟨v, d, av, lo, hi, rfl, _⟩ := h
    rfl
  · obtain ⟨v, d, av, lo, hi, rfl, hd, q⟩ := h
    refine ⟨_, pss_one (ps_ret (pe_and (pe_can C hr (by rfl) (pa_cons (pv 0) pa_nil)) (pe_one (pe_chain op_le op_le (pv 1) (pv 0) (pv 2))))), ?_⟩
    refine ⟨v, rfl, v, d, av, rfl, hd, _, rfl, ite2 (fun e => ?_) (fun e => ?_)⟩
    · cases hd <;> first | (cases e; done) | skip
      rename_i i
      refine ⟨.int lo, rfl, .int i, rfl, lo, i, rfl, rfl, _, rfl, ite2 (fun e1 => ?_) (fun e1 => ?_)⟩
      · refine ⟨.int hi, rfl, i, hi, rfl, rfl, ?_⟩
        have z : decide (i ≤ hi) = within (.int i) lo hi := by
          show _ = (decide (lo ≤ i) && decide (i ≤ hi))
          rw [e1, Bool.true_and]
        rw [← z] at q; exact q
      · have z : false = within (.int i) lo hi := by
          show _ = (decide (lo ≤ i) && decide (i ≤ hi))
          rw [show decide (lo ≤ i) = false from Bool.eq_false_iff.mpr e1, Bool.false_and]
        rw [z]; exact q
    · have z : false = within d lo hi := by cases d <;> first | rfl | exact absurd rfl e
      rw [z]; exact q
def spTupOf : Sp := fun vs H Q _ => ∃ (v : V) (d : PyData) (av : List Addr) (n : Int), vs = [v, .int n] ∧ Dt av H v d ∧ Q (.bl (tupOf d n)) H
theorem ok_tupOf (h : Has K mg "is_tuple_of" sTupOf) (B : Blt mg) : Can P w K mg base "is_tuple_of" ["thing", "many"] 1 spTupOf := by
  obtain ⟨f, fd, F, g⟩ := h
  refine ⟨f, fd, F.ok (k := 0) scTupOf (fun vs H Q E h => ?_) (fun cdv A outer s H vs Q E hr h => ?_), g, F.kp, F.binds fun _ _ _ _ _ _ us hl => match us, hl with | [_, _], _ => rfl⟩
  · obtain ⟨v, d, av, n, rfl, _⟩ := h
    rfl
  · obtain ⟨v, d, av, n, rfl, hd, q⟩ := h
    refine ⟨_, pss_one (ps_ret (pe_and (pe_callB (call_isD kit_tup) (by rfl) B.isi boot_isinstance (pa_cons (pv 0) (pa_cons (pe_bltn (v := .ty "tuple") (by rfl) B.tuple_ boot_tuple rfl) pa_nil)))
      (pe_one (pe_cmpR op_eq (pe_callB call_len_seq (by rfl) B.len_ PySem.boot_len (pa_cons (pv 0) pa_nil)) (pv 1) (nomark _))))), ?_⟩
    refine ⟨v, rfl, v, d, av, rfl, hd, _, rfl, ite2 (fun e => ?_) (fun e => ?_)⟩
    · cases hd <;> first | (cases e; done) | skip
      rename_i a xs ds na ea hs
      refine ⟨.ref a, rfl, a, xs, rfl, .inr (SqT.of ea), .int n, rfl, rfl, ?_⟩
      have z : decide (V.int (xs.length : Int) = V.int n) = tupOf (.tuple ds) n := by
        show _ = decide ((ds.length : Int) = n)
        rw [hs.len]
        exact decide_eq_decide.mpr ⟨fun y => V.int.inj y, fun y => by rw [y]⟩
      rw [z]; exact q
    · have z : false = tupOf d n := by cases d <;> first | rfl | exact absurd rfl e
      rw [z]; exact q
end
end Rw

namespace Rw
open PySem PySem.Spec PyProof.Rows L2 TL
/-- over a text's signs -/
theorem lc_txt {x : Str} {g : TG} {tt : TT} {te : TE} {vs : List Nat} {σ : L2.St} {H1 : Hp} {D : Addr} {Qd : Hp → Prop} (Pv : Nat → Hp → Prop) (h0 : Pv 0 (upd H1 D (.lst [])))
    (hs : ∀ i c H, (tl x)[i]? = some c → Pv i H → g (.str ⟨#[c]⟩) (wipe σ vs) H fun σ2 H2 => wipe σ2 vs = wipe σ vs ∧ tt σ2 H2 fun b H3 =>
      if b = true then te σ2 H3 fun y H4 => ∃ acc, H4 D = some (.lst acc) ∧ acc.length < sizeLine ∧ Pv (i + 1) (upd H4 D (.lst (acc ++ [y]))) else Pv (i + 1) H3) (hd : ∀ H, Pv (tl x).length H → Qd H) :
    ∃ W : Nat → Nat → Hp → Prop, (∃ m, W 0 m (upd H1 D (.lst []))) ∧ ∀ i m H, W i m H →
      ((Its x).stop i H ∧ Qd H) ∨ ((Its x).go i H ∧ ∃ Nx : Hp → Prop, (∀ H', Nx H' → ∃ m', m' < m ∧ W (i + 1) m' H') ∧ ∀ v H', (Its x).yld i H v H' → g v (wipe σ vs) H' fun σ2 H2 => wipe σ2 vs = wipe σ vs ∧ tt σ2 H2 fun b H3 =>
        if b = true then te σ2 H3 fun y H4 => ∃ acc, H4 D = some (.lst acc) ∧ acc.length < sizeLine ∧ Nx (upd H4 D (.lst (acc ++ [y]))) else Nx H3) := by
  refine ⟨fun i m H => m + i = (tl x).length ∧ Pv i H, ⟨(tl x).length, rfl, h0⟩, fun i m H w => ?_⟩
  obtain ⟨wm, p⟩ := w
  have sz : x.cps.size = (tl x).length := Array.length_toList.symm
  match m, wm with
  | 0, wm =>
    have e : i = (tl x).length := by omega
    exact .inl ⟨show x.cps.size ≤ i by omega, hd H (e ▸ p)⟩
  | m + 1, wm =>
    refine .inr ⟨show i < x.cps.size by omega, Pv (i + 1), fun G pG => ⟨m, Nat.lt_succ_self m, by omega, pG⟩, fun v G y => ?_⟩
    obtain ⟨rfl, c, hc, rfl⟩ := y
    exact hs i c _ (by rw [Array.getElem?_toList]; exact hc) p
abbrev figT : Str := Str.ofString "0123456789"
theorem fig_in {c : Nat} (h : 48 ≤ c ∧ c ≤ 57) : decide (c ∈ figT.cps.toList) = true := by
  have e : figT.cps.toList = [48, 49, 50, 51, 52, 53, 54, 55, 56, 57] := by decide +kernel
  rw [e]
  refine decide_eq_true ?_
  simp only [List.mem_cons, List.not_mem_nil, or_false]
  omega
end Rw

namespace Rw
open PySem PySem.Spec PyProof.Rows L2 TL
theorem units65 {k : Nat} {A : Around} (r : Room k A) : A.units + 65 < cLine := by have := r.un; omega
def ktx (k : Int × Int) : Str := tx k.1 ++ crossT ++ tx k.2
def okK (k : Int × Int) : Prop := 0 ≤ k.1 ∧ k.1 < 1000000000000000 ∧ 0 ≤ k.2 ∧ k.2 < 1000000000000000
def rtx (l : Int) (ks : List (Int × Int)) : Str := Txt.join blankT (tx l :: ks.map ktx)
def ropeD (l : Int) (ks : List (Int × Int)) : PyData := .tuple [.int l, .tuple (ks.map prD)]
theorem emp_app (a : Str) : Str.empty ++ a = a := ext_tl (by rw [tl_append]; rfl)
theorem cross_len : crossT.length = 1 := by decide +kernel
theorem blank_len : blankT.length = 1 := by decide +kernel
theorem ktx_len {k : Int × Int} (h : okK k) : (ktx k).length ≤ 31 := by
  have h1 := len15 h.1 h.2.1
  have h2 := len15 h.2.2.1 h.2.2.2
  have := cross_len
  unfold ktx
  rw [len_app, len_app]; omega
theorem ktx_free {k : Int × Int} (h : okK k) : 32 ∉ tl (ktx k) := by
  unfold ktx
  rw [tl_append, tl_append, cross_tl]
  intro m
  rcases List.mem_append.mp m with m | m
  · rcases List.mem_append.mp m with m | m
    · exact tx_free h.1 (by decide) m
    · simp at m
  · exact tx_free h.2.2.1 (by decide) m
theorem sum_len : ∀ {ys : List Str}, (∀ y ∈ ys, y.length ≤ 31) → (ys.map (·.length)).sum ≤ 31 * ys.length
  | [], _ => Nat.le_refl _
  | y :: ys, h => by
    have h1 := h y List.mem_cons_self
    have h2 := sum_len (ys := ys) fun z m => h z (List.mem_cons_of_mem _ m)
    rw [List.map_cons, List.sum_cons, List.length_cons]; omega
theorem join_len (y : Str) : ∀ (ys : List Str), (Txt.join y ys).length ≤ (ys.map (·.length)).sum + ys.length * y.length
  | [] => by rw [join_eq, len_tl, tl_join]; exact Nat.zero_le _
  | [a] => by rw [join_one]; show a.length ≤ a.length + 0 + 1 * y.length; omega
  | a :: b :: l => by
    have ih := join_len y (b :: l)
    have e : Txt.join y (a :: b :: l) = a ++ y ++ Txt.join y (b :: l) := by
      rw [join_eq, join_eq]
      refine ext_tl ?_
      rw [tl_join, tl_append, tl_append, tl_join]
      simp [joinL]
    rw [e, len_app, len_app, List.map_cons, List.sum_cons, List.length_cons]
    have : (l.length + 1 + 1) * y.length = (l.length + 1) * y.length + y.length := by rw [Nat.succ_mul]
    rw [List.length_cons] at ih ⊢
    omega
theorem lst_step {av : List Addr} {G G2 : Hp} {W : Addr} {vs : List V} {y : V} {ds : List PyData} {d : PyData} (dv : Dts (W :: av) G vs ds) (k : Keep (W :: av) G G2) (dy : Dt (W :: av) G2 y d) : Dts (W :: av) (upd G2 W (.lst (vs ++ [y]))) (vs ++ [y]) (ds ++ [d]) :=
  ((dv.keep k).app (.cons dy .nil)).keep (Keep.put List.mem_cons_self)
theorem tup_lay (p : List Int) : PyData.canLay0 (tupI p) = true := by
  show PyData.canLay0 (.tuple (p.map .int)) = true
  simp only [PyData.canLay0, tupI_lay p]
theorem tup_depth (p : List Int) : PyData.depth (tupI p) = 1 := by
  show PyData.depth (.tuple (p.map .int)) = 1
  simp [PyData.depth, tupI_depths p]
end Rw

namespace Rw
open PySem PySem.Spec PyProof.Rows L2 TL
/-! ### data shown: how deep and how long, and repr of it where nothing else is being shown -/
structure Sw (k n : Nat) (d : PyData) : Prop where
  lay : d.canLay0 = true
  sh : d.showable = true
  dp : d.depth ≤ k
  ln : d.shown.length ≤ n
theorem Sw.mono {k n k' n' : Nat} {d : PyData} (h : Sw k n d) (h1 : k ≤ k') (h2 : n ≤ n') : Sw k' n' d := ⟨h.lay, h.sh, Nat.le_trans h.dp h1, Nat.le_trans h.ln h2⟩
theorem sw_all {k n : Nat} : ∀ ds : List PyData, (∀ d ∈ ds, Sw k n d) → PyData.canLayAll0 ds = true ∧ PyData.showableAll ds = true ∧ PyData.depthAll ds ≤ k ∧ ((PyData.shownAll ds).map (·.length)).sum ≤ ds.length * n ∧ (PyData.shownAll ds).length = ds.length
  | [], _ => by
    refine ⟨by simp only [PyData.canLayAll0], by simp only [PyData.showableAll], by simp only [PyData.depthAll]; omega, ?_, ?_⟩
    · simp only [PyData.shownAll]; exact Nat.zero_le _
    · simp only [PyData.shownAll]; rfl
  | d :: ds, h => by
    have hd := h d List.mem_cons_self
    obtain ⟨a1, a2, a3, a4, a5⟩ := sw_all ds fun z m => h z (List.mem_cons_of_mem _ m)
    have e1 := hd.dp
    have e2 := hd.ln
    refine ⟨by simp only [PyData.canLayAll0, hd.lay, a1, Bool.and_true], by simp only [PyData.showableAll, hd.sh, a2, Bool.and_true], ?_, ?_, ?_⟩
    · simp only [PyData.depthAll]; omega
    · simp only [PyData.shownAll, List.map_cons, List.sum_cons, List.length_cons]
      rw [Nat.succ_mul]; omega
    · simp only [PyData.shownAll, List.length_cons, a5]
theorem Sw.tup {k n m : Nat} {ds : List PyData} (h : ∀ d ∈ ds, Sw k n d) (hm : ds.length ≤ m) : Sw (k + 1) (m * (n + 2) + 3) (.tuple ds) := by
  obtain ⟨a1, a2, a3, a4, a5⟩ := sw_all ds h
  refine ⟨by simp only [PyData.canLay0, a1], by simp only [PyData.showable, a2], by simp only [PyData.depth]; omega, ?_⟩
  have h2 := tupleText_len_le (PyData.shownAll ds)
  have h3 : ds.length * (n + 2) ≤ m * (n + 2) := Nat.mul_le_mul hm (Nat.le_refl _)
  have h4 : ds.length * (n + 2) = ds.length * n + 2 * ds.length := by rw [Nat.mul_add]; omega
  simp only [PyData.shown]
  omega
theorem Sw.lst {k n m : Nat} {ds : List PyData} (h : ∀ d ∈ ds, Sw k n d) (hm : ds.length ≤ m) : Sw (k + 1) (m * (n + 2) + 3) (.list ds) := by
  obtain ⟨a1, a2, a3, a4, a5⟩ := sw_all ds h
  refine ⟨by simp only [PyData.canLay0, a1], by simp only [PyData.showable, a2], by simp only [PyData.depth]; omega, ?_⟩
  have h2 := listText_len_le (PyData.shownAll ds)
  have h3 : ds.length * (n + 2) ≤ m * (n + 2) := Nat.mul_le_mul hm (Nat.le_refl _)
  have h4 : ds.length * (n + 2) = ds.length * n + 2 * ds.length := by rw [Nat.mul_add]; omega
  simp only [PyData.shown]
  omega
theorem Sw.int {i : Int} (h0 : 0 ≤ i) (h1 : i < 1000000000000000) : Sw 0 16 (.int i) := by
  have l := len15 h0 h1
  refine ⟨by simp only [PyData.canLay0], ?_, by simp only [PyData.depth]; omega, ?_⟩
  · simp only [PyData.showable]; exact decide_eq_true (tx_log h0 (by omega))
  · show (tx i).length ≤ 16; omega
section
variable {X : Cx}
def rReprT : List V → Hp → VK → Prop := fun xs H Q => ∃ (a : Addr) (d : PyData) (n : Nat), xs = [.ref a] ∧ Dt [] H (.ref a) d ∧ Sw 60 n d ∧ n ≤ 100000 ∧ Q (.str d.shown) H
theorem cr_reprT (hg : X.A.guards = some []) (hu : X.A.units + 70 < cLine) : CallR X (.builtin "repr") rReprT := by
  intro pins s σ H xs us Q I r h
  obtain ⟨a, d, n, rfl, hd, sw, hn, q⟩ := h
  obtain ⟨u, rfl, ru⟩ := vals1 r
  obtain ⟨as, rd⟩ := Dp.reads I d _ _ (Dt.dp d _ hd sw.lay) ru
  cases ru
  have e1 := sw.dp
  have e2 := sw.ln
  have sz : (100000 : Nat) ≤ sizeLine := by decide
  exact repr_of_reads' rd sw.sh (PyData.noDict_hsm (PyData.hasDict_of_canLay d sw.lay)) hg (by omega) (fun _ _ e => e) (fun h' t tk k => ⟨.str d.shown, H, I.kept (t' := tk) k, ⟨t, rfl⟩, q⟩) (by omega)
end
theorem units70 {k : Nat} {A : Around} (r : Room k A) : A.units + 70 < cLine := by have := r.un; omega
end Rw

namespace Rw
open PySem PySem.Spec PyProof.Rows L2 TL
end Rw

namespace Rw
open PySem PySem.Spec PyProof.Rows L2 TL
end Rw

namespace Rw
open PySem PySem.Spec PyProof.Rows L2 TL
def rising (lo hi : Int) : List (Int × Int) → Prop
  | [] => True
  | k :: ks => lo ≤ k.1 ∧ k.1 ≤ hi ∧ rising (k.1 + 1) hi ks
def okR (l : Int) (ks : List (Int × Int)) : Prop := 1 ≤ l ∧ l ≤ 100000000000000 ∧ rising 0 l ks ∧ (∀ k ∈ ks, 1 ≤ k.2 ∧ k.2 ≤ 1000000) ∧ ks.length ≤ 4
theorem rising_in : ∀ {ks : List (Int × Int)} {lo hi : Int}, rising lo hi ks → ∀ k ∈ ks, lo ≤ k.1 ∧ k.1 ≤ hi
  | [], _, _, _, k, m => nomatch m
  | p :: ks, lo, hi, h, k, m => by
    rcases List.mem_cons.mp m with rfl | m
    · exact ⟨h.1, h.2.1⟩
    · have := rising_in h.2.2 k m
      have := h.1
      omega
theorem okR_K {l : Int} {ks : List (Int × Int)} (h : okR l ks) : ∀ k ∈ ks, okK k := fun k m => by
  obtain ⟨l1, l2, r, s, _⟩ := h
  have h1 := rising_in r k m
  have h2 := s k m
  exact ⟨h1.1, by omega, by omega, by omega⟩
theorem drop_rest {ks : List (Int × Int)} {i : Nat} {k : Int × Int} (h : ks[i]? = some k) : ks.drop i = k :: ks.drop (i + 1) := by
  obtain ⟨hl, e⟩ := List.getElem?_eq_some_iff.mp h
  rw [List.drop_eq_getElem_cons hl, e]
theorem pr_at {H : Hp} {x : V} {k : Int × Int} (dx : Dt [] H x (prD k)) : ∃ b, x = .ref b ∧ H b = some (.tup [.int k.1, .int k.2]) := by
  obtain ⟨b, ys, rfl, _, eb, db⟩ := tup_at dx
  have hys : ys = [.int k.1, .int k.2] := Dts.unints (ns := [k.1, k.2]) db
  subst hys
  exact ⟨b, rfl, eb⟩
theorem within_yes {i lo hi : Int} (h1 : lo ≤ i) (h2 : i ≤ hi) : within (.int i) lo hi = true := by
  show (decide (lo ≤ i) && decide (i ≤ hi)) = true
  rw [decide_eq_true h1, decide_eq_true h2]; rfl
end Rw

namespace Rw
open PySem PySem.Spec PyProof.Rows L2 TL
theorem join_cons (y a b : Str) (l : List Str) : Txt.join y (a :: b :: l) = a ++ y ++ Txt.join y (b :: l) := by
  rw [join_eq, join_eq]
  refine ext_tl ?_
  rw [tl_join, tl_append, tl_append, tl_join]
  simp [joinL]
theorem join_snoc (y b : Str) : ∀ (a : Str) (l : List Str), Txt.join y (a :: (l ++ [b])) = Txt.join y (a :: l) ++ y ++ b
  | a, [] => by rw [List.nil_append, join_two, join_one]
  | a, c :: l => by
    rw [List.cons_append, join_cons, join_snoc y b c l, join_cons, app_assoc, app_assoc, app_assoc, app_assoc, app_assoc]
theorem rtx_nil (l : Int) : rtx l [] = tx l := join_one _ _
theorem rtx_snoc (l : Int) (ks : List (Int × Int)) (k : Int × Int) : rtx l (ks ++ [k]) = rtx l ks ++ blankT ++ tx k.1 ++ crossT ++ tx k.2 := by
  unfold rtx
  rw [List.map_append, List.map_cons, List.map_nil, join_snoc]
  unfold ktx
  rw [app_assoc, app_assoc, app_assoc, app_assoc, app_assoc]
def small (x : Str) : Prop := ∀ c ∈ tl x, c < 128
theorem small.app {a b : Str} (h1 : small a) (h2 : small b) : small (a ++ b) := fun c m => by
  rw [tl_append] at m
  rcases List.mem_append.mp m with m | m
  · exact h1 c m
  · exact h2 c m
theorem small_tx {i : Int} (h : 0 ≤ i) : small (tx i) := fun c m => by have := tx_dig h c m; omega
theorem small_plus : small plusT := fun c m => by rw [plus_tl] at m; rw [List.mem_singleton.mp m]; decide
theorem small_blank : small blankT := fun c m => by rw [blank_tl] at m; rw [List.mem_singleton.mp m]; decide
theorem small_cross : small crossT := fun c m => by rw [cross_tl] at m; rw [List.mem_singleton.mp m]; decide
theorem small_ptx {p : List Int} (h : okT p) : small (ptx p) := by
  rcases okT_cases h with ⟨r, rfl, r0, r1⟩ | ⟨i, a, rfl, i0, i1, a0, a1⟩
  · exact small_tx r0
  · exact ((small_tx i0).app small_plus).app (small_tx (by omega))
theorem rtx_ok0 (l : Int) (l0 : 0 ≤ l) (l1 : l < 1000000000000000) : ∀ (n : Nat) (ks : List (Int × Int)), ks.length = n → (∀ k ∈ ks, okK k) → small (rtx l ks) ∧ (rtx l ks).length ≤ 15 + 32 * n
  | 0, ks, e, _ => by
    rw [List.eq_nil_of_length_eq_zero e, rtx_nil]
    exact ⟨small_tx l0, len15 l0 l1⟩
  | n + 1, ks, e, h => by
    rcases List.eq_nil_or_concat ks with rfl | ⟨ks', k, rfl⟩
    · cases e
    · rw [List.concat_eq_append] at e h ⊢
      rw [List.length_append] at e
      obtain ⟨h1, h2⟩ := rtx_ok0 l l0 l1 n ks' (by simpa using e) fun z m => h z (List.mem_append_left _ m)
      have hk := h k (List.mem_append_right _ List.mem_cons_self)
      rw [rtx_snoc]
      have a1 := len15 hk.1 hk.2.1
      have a2 := len15 hk.2.2.1 hk.2.2.2
      have a3 := cross_len
      have a4 := blank_len
      refine ⟨(((h1.app small_blank).app (small_tx hk.1)).app small_cross).app (small_tx hk.2.2.1), ?_⟩
      rw [len_app, len_app, len_app, len_app]
      omega
theorem rtx_ok (l : Int) (ks : List (Int × Int)) (l0 : 0 ≤ l) (l1 : l < 1000000000000000) (h : ∀ k ∈ ks, okK k) : small (rtx l ks) ∧ (rtx l ks).length ≤ 15 + 32 * ks.length := rtx_ok0 l l0 l1 _ ks rfl h
theorem repr_fits {x : Str} (h : small x) (hl : x.length ≤ 1000) : (reprText x).length ≤ sizeLine :=
  Nat.le_trans (StrLaws.reprText_len x fun c m => Nat.lt_of_lt_of_le (h c m) (by decide)) (Nat.le_trans (by omega : _ ≤ 20000) (show 20000 ≤ sizeLine by decide))
end Rw

namespace Rw
open PySem PySem.Spec PyProof.Rows L2 TL
end Rw

namespace Rw
open PySem PySem.Spec PyProof.Rows L2
/-! the deck: cells, how many are used, what is left of one, a count (at most b) -/
structure Dq (H : Hp) (D C : Addr) (b : Int) : Prop where
  ex : ∃ (cs : List Int) (j r t : Int), H D = some (.lst [.ref C, .int j, .int r, .int t]) ∧ H C = some (.lst (cs.map V.int)) ∧ cs.length ≤ 63 ∧ (∀ c ∈ cs, 0 ≤ c) ∧ 0 ≤ j ∧ 0 ≤ r ∧ 0 ≤ t ∧ t ≤ b
  ne : D ≠ C
theorem Dq.mono {H : Hp} {D C : Addr} {b b' : Int} (x : Dq H D C b) (h : b ≤ b') : Dq H D C b' := by
  obtain ⟨⟨cs, j, r, t, e1, e2, e3, e4, e5, e6, e7, e8⟩, n⟩ := x
  exact ⟨⟨cs, j, r, t, e1, e2, e3, e4, e5, e6, e7, by omega⟩, n⟩
theorem Dq.keep {H H' : Hp} {D C : Addr} {b : Int} (x : Dq H D C b) (k : Keep [] H H') : Dq H' D C b := by
  obtain ⟨⟨cs, j, r, t, e1, e2, z⟩, n⟩ := x
  exact ⟨⟨cs, j, r, t, k _ _ e1 List.not_mem_nil, k _ _ e2 List.not_mem_nil, z⟩, n⟩
theorem Dq.other {H : Hp} {D C p : Addr} {b : Int} {o : HO} (x : Dq H D C b) (h1 : p ≠ D) (h2 : p ≠ C) : Dq (upd H p o) D C b := by
  obtain ⟨⟨cs, j, r, t, e1, e2, z⟩, n⟩ := x
  exact ⟨⟨cs, j, r, t, by rw [upd_ne h1.symm]; exact e1, by rw [upd_ne h2.symm]; exact e2, z⟩, n⟩
theorem Dq.nes {H : Hp} {D C p : Addr} {b : Int} (x : Dq H D C b) (n : H p = none) : p ≠ D ∧ p ≠ C := by
  obtain ⟨⟨cs, j, r, t, e1, e2, z⟩, _⟩ := x
  exact ⟨(ne_of_none e1 n).symm, (ne_of_none e2 n).symm⟩
theorem Dq.new {H : Hp} {D C p : Addr} {b : Int} {o : HO} (x : Dq H D C b) (n : H p = none) : Dq (upd H p o) D C b := x.other (x.nes n).1 (x.nes n).2
theorem Dq.tr {H : Hp} {D C : Addr} {b : Int} (x : Dq H D C b) : Tr [D] H := fun a m => by
  obtain ⟨⟨cs, j, r, t, e1, e2, z⟩, _⟩ := x
  rw [List.mem_singleton.mp m]; exact ⟨_, e1⟩
theorem pick_at {xs : List Int} {k : Int} (k0 : 0 ≤ k) (k1 : k < (xs.length : Int)) : ∃ v ∈ xs, atI (xs.map V.int) k = some (.int v) := by
  have ge : xs[k.toNat]? = some xs[k.toNat] := List.getElem?_eq_getElem (by omega)
  exact ⟨_, List.getElem_mem _, atI_of k0 (by rw [List.getElem?_map, ge]; rfl)⟩
end Rw

namespace Rw
open PySem PySem.Spec PyProof.Rows L2
theorem rising_of : ∀ {ks : List (Int × Int)} {lo hi : Int}, (ks.map Prod.fst).Pairwise (· < ·) → (∀ k ∈ ks, lo ≤ k.1 ∧ k.1 ≤ hi) → rising lo hi ks
  | [], _, _, _, _ => trivial
  | k :: ks, lo, hi, pw, h => by
    rw [List.map_cons, List.pairwise_cons] at pw
    have hk := h k List.mem_cons_self
    refine ⟨hk.1, hk.2, rising_of pw.2 fun z m => ?_⟩
    have h1 := pw.1 z.1 (List.mem_map_of_mem m)
    have h2 := h z (List.mem_cons_of_mem _ m)
    exact ⟨by omega, h2.2⟩
theorem not1 {D p : Addr} (h : p ≠ D) : p ∉ [D] := fun m => h (List.mem_singleton.mp m)
theorem one_in {D : Addr} {av : List Addr} (m : D ∈ av) : ∀ a ∈ [D], a ∈ av := fun a h => by rw [List.mem_singleton.mp h]; exact m
theorem e15 : (10 : Int) ^ Int.toNat 15 = 1000000000000000 := by decide
theorem e14 : (10 : Int) ^ Int.toNat 14 = 100000000000000 := by decide
theorem e6 : (10 : Int) ^ Int.toNat 6 = 1000000 := by decide
theorem Dq.free {H H' : Hp} {D C p : Addr} {b : Int} (d : Dq H' D C b) (k : Keep [D] H H') (n : H' p = none) : H p = none := k.fre d.tr n
end Rw

namespace Rw
open PySem PySem.Spec PyProof.Rows L2
/-! the deck of great cells' digits, a mixed number and a count (at most b) -/
structure Dk (H : Hp) (D G : Addr) (b : Int) : Prop where
  ex : ∃ (rs : List Int) (wh c : Int), H D = some (.lst [.ref G, .int wh, .int c]) ∧ H G = some (.lst (rs.map V.int)) ∧ rs.length ≤ 100 ∧ (∀ r ∈ rs, 0 ≤ r) ∧ 0 ≤ wh ∧ wh < 2305843009213693951 ∧ 0 ≤ c ∧ c ≤ b
  ne : D ≠ G
theorem Dk.mono {H : Hp} {D G : Addr} {b b' : Int} (x : Dk H D G b) (h : b ≤ b') : Dk H D G b' := by
  obtain ⟨⟨rs, wh, c, e1, e2, e3, e4, e5, e6, e7, e8⟩, n⟩ := x
  exact ⟨⟨rs, wh, c, e1, e2, e3, e4, e5, e6, e7, by omega⟩, n⟩
theorem Dk.keep {H H' : Hp} {D G : Addr} {b : Int} (x : Dk H D G b) (k : Keep [] H H') : Dk H' D G b := by
  obtain ⟨⟨rs, wh, c, e1, e2, r⟩, n⟩ := x
  exact ⟨⟨rs, wh, c, k _ _ e1 List.not_mem_nil, k _ _ e2 List.not_mem_nil, r⟩, n⟩
theorem Dk.other {H : Hp} {D G p : Addr} {b : Int} {o : HO} (x : Dk H D G b) (h1 : p ≠ D) (h2 : p ≠ G) : Dk (upd H p o) D G b := by
  obtain ⟨⟨rs, wh, c, e1, e2, r⟩, n⟩ := x
  exact ⟨⟨rs, wh, c, by rw [upd_ne h1.symm]; exact e1, by rw [upd_ne h2.symm]; exact e2, r⟩, n⟩
theorem Dk.nes {H : Hp} {D G p : Addr} {b : Int} (x : Dk H D G b) (n : H p = none) : p ≠ D ∧ p ≠ G := by
  obtain ⟨⟨rs, wh, c, e1, e2, r⟩, _⟩ := x
  exact ⟨(ne_of_none e1 n).symm, (ne_of_none e2 n).symm⟩
theorem Dk.new {H : Hp} {D G p : Addr} {b : Int} {o : HO} (x : Dk H D G b) (n : H p = none) : Dk (upd H p o) D G b := x.other (x.nes n).1 (x.nes n).2
theorem Dk.tr {H : Hp} {D G : Addr} {b : Int} (x : Dk H D G b) : Tr [D, G] H := fun a m => by
  obtain ⟨⟨rs, wh, c, e1, e2, r⟩, _⟩ := x
  rcases List.mem_cons.mp m with rfl | m
  · exact ⟨_, e1⟩
  · rw [List.mem_singleton.mp m]; exact ⟨_, e2⟩
structure Sg (av : List Addr) (D G : Addr) (H J : Hp) (b : Int) : Prop where
  k : Keep [D, G] H J
  dk : Dk J D G b
  tr : Tr av J
theorem Sg.new {av : List Addr} {D G p : Addr} {H J : Hp} {b : Int} {o : HO} (s : Sg av D G H J b) (n : J p = none) : Sg av D G H (upd J p o) b := ⟨s.k.trans (Keep.new n), s.dk.new n, s.tr.upd⟩
theorem Sg.go {av : List Addr} {D G : Addr} {H J J' : Hp} {b b' : Int} (s : Sg av D G H J b) (k : Keep [D, G] J J') (d : Dk J' D G b') : Sg av D G H J' b' := ⟨s.k.trans k, d, s.tr.kp k d.tr⟩
theorem Sg.kp {av : List Addr} {D G : Addr} {H J J' : Hp} {b : Int} (s : Sg av D G H J b) (k : Keep [] J J') : Sg av D G H J' b := s.go k.of (s.dk.keep k)
theorem Sg.free {av : List Addr} {D G p : Addr} {H J : Hp} {b : Int} (s : Sg av D G H J b) (n : J p = none) : H p = none := s.k.fre s.dk.tr n
theorem Sg.mono {av : List Addr} {D G : Addr} {H J : Hp} {b b' : Int} (s : Sg av D G H J b) (h : b ≤ b') : Sg av D G H J b' := ⟨s.k, s.dk.mono h, s.tr⟩
theorem two_in {D G : Addr} {av : List Addr} (m1 : D ∈ av) (m2 : G ∈ av) : ∀ a ∈ [D, G], a ∈ av := fun a m => by
  rcases List.mem_cons.mp m with rfl | m
  · exact m1
  · rw [List.mem_singleton.mp m]; exact m2
theorem not2 {D G p : Addr} (h : p ≠ D ∧ p ≠ G) : p ∉ [D, G] := fun m => by
  rcases List.mem_cons.mp m with m | m
  · exact h.1 m
  · exact h.2 (List.mem_singleton.mp m)
end Rw

namespace Rw
open PySem PySem.Spec PyProof.Rows L2
theorem pick_in {P : Int → Prop} {xs : List Int} (h : ∀ x ∈ xs, P x) {k : Int} (k0 : 0 ≤ k) (k1 : k < xs.length) : ∃ j, atI (xs.map V.int) k = some (.int j) ∧ P j := by
  have hk : k.toNat < xs.length := by omega
  refine ⟨xs[k.toNat], atI_of k0 ?_, h _ (List.getElem_mem hk)⟩
  rw [List.getElem?_map, List.getElem?_eq_getElem hk]; rfl
theorem con_up {n : Int} {ps : List Pi} (h : ∀ r : Int, 1 ≤ r → r < n → ∃ p ∈ ps, p.y = r ∧ 0 ≤ p.x ∧ p.x < r) : Con n.toNat (edges ps) := by
  intro S hE
  have key : ∀ k : Nat, ∀ a : Nat, a ≤ k → a < n.toNat → S a = S 0 := by
    intro k
    induction k with
    | zero => intro a h0 _; rw [show a = 0 by omega]
    | succ k ih =>
      intro a ha hn
      by_cases z : a ≤ k
      · exact ih a z hn
      · obtain ⟨p, hp, e1, e2, e3⟩ := h (a : Int) (by omega) (by omega)
        have := hE (p.x.toNat, p.y.toNat) (List.mem_map.mpr ⟨p, hp, rfl⟩)
        have z1 : S p.x.toNat = S p.y.toNat := this
        rw [show a = p.y.toNat by omega, ← z1]
        exact ih _ (by omega) (by omega)
  exact fun a ha => key a a (Nat.le_refl _) ha
end Rw

namespace Rw
open PySem PySem.Spec PyProof.Rows L2
structure okH (n : Int) (ps : List Pi) : Prop where
  n1 : 1 ≤ n
  n16 : n ≤ 16
  len : (ps.length : Int) + 1 = n
  ok : ∀ p ∈ ps, p.ok n
  con : Con n.toNat (edges ps)
  na : (ps.map fun p => p.na.length).sum ≤ 12
  fl : (ps.map fun p => p.fl.length).sum ≤ 6
theorem rise_fit {lo hi : Int} {ks : List (Int × Int)} (pw : (ks.map (·.1)).Pairwise (· < ·)) (h : ∀ k ∈ ks, lo ≤ k.1 ∧ k.1 ≤ hi) : rising lo hi ks := rising_of pw h
theorem pipe_is {H : Hp} {v : V} {p : Pi} (h : Dt [] H v p.dat) : ∃ a v3 v4, v = .ref a ∧ H a = some (.tup [.int p.x, .int p.y, .int p.l, v3, v4]) ∧ Dt [] H v3 (.tuple (p.na.map prD)) ∧ Dt [] H v4 (.tuple (p.fl.map prD)) := by
  obtain ⟨a, xs, rfl, _, ea, da⟩ := tup_at h
  cases da with
  | cons d1 da => cases d1; cases da with
    | cons d2 da => cases d2; cases da with
      | cons d3 da => cases d3; cases da with
        | cons d4 da => cases da with
          | cons d5 da => cases da; exact ⟨a, _, _, rfl, ea, d4, d5⟩
theorem at_grp {gs : List Int} {x : Int} (h0 : 0 ≤ x) (h : x < gs.length) : atI (gs.map V.int) x = some (.int (grp gs x.toNat)) := by
  refine atI_of h0 ?_
  rw [List.getElem?_map, List.getElem?_eq_getElem (by omega)]
  unfold grp
  rw [List.getD_eq_getElem?_getD, List.getElem?_eq_getElem (by omega)]; rfl
theorem rg_start {r : Int} (h : 0 ≤ r) : rgV 0 r = (Rw.start r.toNat).map V.int := by
  unfold rgV Rw.start
  rw [List.map_map, Int.sub_zero]
  apply List.map_congr_left
  intro a _
  show V.int (0 + (a : Int)) = V.int (Int.ofNat a)
  rw [Int.zero_add]; rfl
theorem sum_ints (ns : List Nat) : (ns.map fun (n : Nat) => (n : Int)).sum = ((ns.sum : Nat) : Int) := by
  induction ns with
  | nil => rfl
  | cons n ns ih => rw [List.map_cons, List.sum_cons, List.sum_cons, ih]; omega
theorem okH.join {n : Int} {ps : List Pi} (h : okH n ps) : joins (Rw.start n.toNat) (edges ps) = true := by
  have h1 := h.n1
  have h2 := h.len
  refine (joins_iff (by omega) (fun e he => ?_) (by unfold edges; rw [List.length_map]; omega)).mpr h.con
  obtain ⟨p, mp, rfl⟩ := List.mem_map.mp he
  have o := h.ok p mp
  have a1 := o.x0
  have a2 := o.x1
  have a3 := o.y0
  have a4 := o.y1
  exact ⟨by show p.x.toNat < n.toNat; omega, by show p.y.toNat < n.toNat; omega⟩
section
variable {P : Program} {w : World} {K : PySem.W.Frag} {mg : Str → Option Value} {base : Heap}
abbrev sFW : Stmt := topS 48
abbrev nFW : List Str := ["thing"]
theorem scFW : FnScope nFW ["thing"] (defScope sFW) := ⟨rfl, rfl, rfl, by decide +kernel, rfl, by decide +kernel, by decide +kernel⟩
def spFW : Sp := fun vs H Q _ => ∃ (i : Int), vs = [.int i] ∧ (i = 1 ∨ i = -1) ∧ ∀ H', Keep [] H H' → Q (.bl true) H'
theorem ok_fW (h : Has K mg "is_flap_way" sFW) (CH : Can P w K mg base "is_whole" ["thing"] 1 spWhole) : Can P w K mg base "is_flap_way" ["thing"] 2 spFW := by
  obtain ⟨f, fd, F, g⟩ := h
  refine ⟨f, fd, F.ok (k := 1) scFW (fun vs H Q E h => ?_) (fun cdv A outer s H vs Q E hr h => ?_), g, F.kp, F.binds fun _ _ _ _ _ _ us hl => match us, hl with | [_], _ => rfl⟩
  · obtain ⟨i, rfl, _⟩ := h
    rfl
  · obtain ⟨i, rfl, hi, q⟩ := h
    refine ⟨_, pss_one (ps_ret (pe_and (pe_can CH (hr.mono (by decide)) (by rfl) (pa_cons (pv 0) pa_nil)) (pe_one (pe_cmpR op_in_seq (pv 0) (pe_tup (pa_cons pe_int (pa_cons (pe_un un_neg pe_int) pa_nil))) rfl)))), ?_⟩
    refine ⟨.int i, rfl, .int i, .int i, [], rfl, .int i, _, rfl, iteT ?_⟩
    refine ⟨.int i, rfl, 1, rfl, show 2 ≤ sizeLine by decide, fun t nt => ?_⟩
    refine ⟨t, [.int 1, .int (-1)], rfl, .inr (SqT.of upd_same), rfl, rfl, ?_⟩
    rcases hi with rfl | rfl
    · exact q _ (Keep.new nt)
    · exact q _ (Keep.new nt)
abbrev sRPs : Stmt := topS 42
abbrev nRPs : List Str := ["thing", "low", "high", "least", "pair"]
theorem scRPs : FnScope nRPs ["thing", "low", "high"] (defScope sRPs) := ⟨rfl, rfl, rfl, by decide +kernel, rfl, by decide +kernel, by decide +kernel⟩
def spRPs : Sp := fun vs H Q _ => ∃ (v : V) (lo l : Int) (ks : List (Int × Int)), vs = [v, .int lo, .int l] ∧ Dt [] H v (.tuple (ks.map prD)) ∧ rising lo l ks ∧ Q (.bl true) H
theorem ok_rPs (h : Has K mg "are_rising_pairs" sRPs) (B : Blt mg) (CT : Can P w K mg base "is_tuple_of" ["thing", "many"] 1 spTupOf) (CW : Can P w K mg base "is_within" ["thing", "low", "high"] 2 spWithin) : Can P w K mg base "are_rising_pairs" ["thing", "low", "high"] 3 spRPs := by
  obtain ⟨f, fd, F, g⟩ := h
  refine ⟨f, fd, F.ok (k := 2) scRPs (fun vs H Q E h => ?_) (fun cdv A outer s H vs Q E hr h => ?_), g, F.kp, F.binds fun _ _ _ _ _ _ us hl => match us, hl with | [_, _, _], _ => rfl⟩
  · obtain ⟨v, lo0, l, ks, rfl, _⟩ := h
    rfl
  · obtain ⟨v, lo0, l, ks, rfl, hv, rk, q⟩ := h
    refine ⟨_, pss_cons (ps_if (pt_not (pt_val (pe_callB (call_isD kit_tup) (by rfl) B.isi boot_isinstance (pa_cons (pv 0) (pa_cons (pe_bltn (v := .ty "tuple") (by rfl) B.tuple_ boot_tuple rfl) pa_nil))))) (pss_one (ps_ret pe_bl)) pss_nil)
      (pss_cons (ps_set (i := 3) scRPs.nd rfl (by first | exact Or.inl rfl | exact Or.inr rfl) (pv 1))
      (pss_cons (ps_for PassesOwn.never rfl (pi_tup (pv 0)) (pg_name (i := 4) scRPs.nd rfl (by first | exact Or.inl rfl | exact Or.inr rfl))
      (pss_cons (ps_if (PW.pt (pw_or (pt_not (pt_val (pe_can CT (hr.mono (by decide)) (by rfl) (pa_cons (pv 4) (pa_cons pe_int pa_nil))))) (pw_or1 (pt_not (pt_val (pe_can CW (hr.mono (by decide)) (by rfl) (pa_cons (pe_ix ix_tup (pv 4) pe_int (fun _ _ => rfl)) (pa_cons (pv 3) (pa_cons (pv 2) pa_nil))))))))) (pss_one (ps_ret pe_bl)) pss_nil)
      (pss_one (ps_set (i := 3) scRPs.nd rfl (by first | exact Or.inl rfl | exact Or.inr rfl) (pe_op op_add (pe_ix ix_tup (pv 4) pe_int (fun _ _ => rfl)) pe_int)))))
      (pss_one (ps_ret pe_bl)))), ?_⟩
    have hv0 := hv
    obtain ⟨a, xs, rfl, _, ea, da⟩ := tup_at hv
    refine ⟨_, rfl, .ref a, _, [], rfl, hv0, _, rfl, iteF ?_⟩
    refine ⟨_, rfl, ?_⟩
    refine ⟨_, rfl, a, rfl, ⟨_, SqT.of ea⟩, for_tup (K := K) (a := a) (xs := xs) (fun i σ J => J = H ∧ ∃ (s4 : Option V) (lo : Int), σ = [some (.ref a), some (.int lo0), some (.int l), some (.int lo), s4] ∧ rising lo l (ks.drop i)) ⟨rfl, none, lo0, rfl, rk⟩ (fun i σ J _ z => ?_) (fun i x σ J hx z => ?_) (fun σ J z => ?_)⟩
    · rw [z.1]; exact SqT.of ea
    · obtain ⟨rfl, s4, lo, rfl, rz⟩ := z
      obtain ⟨d, hd, dx⟩ := da.getv i hx
      rw [List.getElem?_map] at hd
      obtain ⟨k, gk, rfl⟩ := Option.map_eq_some_iff.mp hd
      obtain ⟨b, rfl, eb⟩ := pr_at dx
      rw [drop_rest gk] at rz
      obtain ⟨r1, r2, r3⟩ := rz
      refine ⟨.ref b, rfl, .ref b, prD k, [], 2, rfl, dx, _, rfl, ?_⟩
      rw [show tupOf (prD k) 2 = true from rfl]
      dsimp only [Bool.not_true]
      refine iteF ?_
      refine ⟨.ref b, rfl, b, _, 0, .int k.1, rfl, rfl, SqT.of eb, atI_nat (j := 0) rfl, .int lo, rfl, .int l, rfl, .int k.1, .int k.1, [], lo, l, rfl, .int _, _, rfl, ?_⟩
      rw [within_yes r1 r2]
      dsimp only [Bool.not_true]
      refine iteF ?_
      refine ⟨.ref b, rfl, b, _, 0, .int k.1, rfl, rfl, SqT.of eb, atI_nat (j := 0) rfl, k.1, 1, rfl, rfl, rfl, _, _, rfl, r3⟩
    · obtain ⟨rfl, s4, lo, rfl, rz⟩ := z
      exact q
abbrev sAN : Stmt := topS 46
abbrev nAN : List Str := ["length", "thing", "pair"]
theorem scAN : FnScope nAN ["length", "thing"] (defScope sAN) := ⟨rfl, rfl, rfl, by decide +kernel, rfl, by decide +kernel, by decide +kernel⟩
def spAN : Sp := fun vs H Q _ => ∃ (v : V) (l : Int) (ks : List (Int × Int)), vs = [.int l, v] ∧ Dt [] H v (.tuple (ks.map prD)) ∧ rising 1 (l - 1) ks ∧ (∀ k ∈ ks, 1 ≤ k.2 ∧ k.2 ≤ 1000000) ∧ ks.length ≤ 900 ∧ ∀ H', Keep [] H H' → Q (.bl true) H'
theorem ok_aN (h : Has K mg "are_narrows" sAN) (B : Blt mg) (cWIDE : ∃ t, mg "WIDE" = some (.int 1000000 t)) (CR : Can P w K mg base "are_rising_pairs" ["thing", "low", "high"] 3 spRPs) (CW : Can P w K mg base "is_within" ["thing", "low", "high"] 2 spWithin) : Can P w K mg base "are_narrows" ["length", "thing"] 4 spAN := by
  obtain ⟨f, fd, F, g⟩ := h
  refine ⟨f, fd, F.ok (k := 3) scAN (fun vs H Q E h => ?_) (fun cdv A outer s H vs Q E hr h => ?_), g, F.kp, F.binds fun _ _ _ _ _ _ us hl => match us, hl with | [_, _], _ => rfl⟩
  · obtain ⟨v, l, ks, rfl, _⟩ := h
    rfl
  · obtain ⟨v, l, ks, rfl, hv, rk, sk, lk, q⟩ := h
    refine ⟨_, pss_cons (ps_if (pt_not (pt_val (pe_can CR (hr.mono (by decide)) (by rfl) (pa_cons (pv 1) (pa_cons pe_int (pa_cons (pe_op op_sub (pv 0) pe_int) pa_nil)))))) (pss_one (ps_ret pe_bl)) pss_nil)
      (pss_one (ps_ret (pe_callB (cr_all rfl) (by rfl) B.all_ (by decide +kernel) (pa_cons (pe_lc (own := [("pair", 2)]) (g := gName 2) (tt := tYes) rfl scAN.nd (pi_tup (pv 1)) (blkOk_by (N := nAN) (sc := defScope sAN) (by decide +kernel)) (fun _ _ _ _ _ => (pg_name (i := 2) scAN.nd rfl (by first | exact Or.inl rfl | exact Or.inr rfl))) (fun _ _ _ _ _ => pts_nil) (fun _ _ _ _ _ => (pe_can CW (hr.mono (by decide)) (by rfl) (pa_cons (pe_ix (ix_tupK (K := K) rfl) (pv 2) pe_int (fun _ _ => rfl)) (pa_cons pe_int (pa_cons (pe_glob (v := .int 1000000) rfl cWIDE.choose_spec ⟨_, rfl⟩) pa_nil)))))) pa_nil)))), ?_⟩
    refine ⟨v, rfl, .int l, rfl, l, 1, rfl, rfl, v, 1, l - 1, ks, rfl, hv, rk, _, rfl, iteF ?_⟩
    obtain ⟨b, ys, rfl, _, eb, db⟩ := tup_at hv
    have ly := db.len
    rw [List.length_map] at ly
    refine ⟨.ref b, rfl, b, rfl, ⟨_, SqT.of eb⟩, fun W nW => ?_⟩
    refine lc_tup (K := K) (a := b) (xs := ys) (fun i G => Keep [] H G ∧ G W = some (.lst ((List.replicate i true).map V.bl))) ⟨Keep.new nW, upd_same⟩ (fun i G _ z => SqT.of (z.1 b _ eb List.not_mem_nil)) (fun i x G hx z => ?_) (fun G z => ?_)
    · obtain ⟨d, hd, dx⟩ := db.getv i hx
      rw [List.getElem?_map] at hd
      obtain ⟨k, gk, rfl⟩ := Option.map_eq_some_iff.mp hd
      obtain ⟨c, rfl, ec⟩ := pr_at dx
      have hi : i < ks.length := (List.getElem?_eq_some_iff.mp gk).1
      have hs := sk k (List.mem_of_getElem? gk)
      refine ⟨rfl, .ref c, rfl, c, _, 1, .int k.2, rfl, rfl, SqT.of (z.1 c _ ec List.not_mem_nil), atI_nat (j := 1) rfl, .int k.2, .int k.2, [], 1, _, rfl, .int _, _, z.2, by rw [List.length_map, List.length_replicate]; exact small1000 (by omega), z.1.upd nW, ?_⟩
      rw [upd_same, within_yes hs.1 hs.2, List.replicate_succ', List.map_append]; rfl
    · refine ⟨W, List.replicate ys.length true, rfl, SqL.of z.2, ?_⟩
      have e1 : (List.replicate ys.length true).all id = true := by simp
      rw [e1]
      exact q G z.1
abbrev sAF : Stmt := topS 47
abbrev nAF : List Str := ["length", "thing", "pair"]
theorem scAF : FnScope nAF ["length", "thing"] (defScope sAF) := ⟨rfl, rfl, rfl, by decide +kernel, rfl, by decide +kernel, by decide +kernel⟩
def spAF : Sp := fun vs H Q _ => ∃ (v : V) (l : Int) (ks : List (Int × Int)), vs = [.int l, v] ∧ Dt [] H v (.tuple (ks.map prD)) ∧ rising 0 (l - 1) ks ∧ (∀ k ∈ ks, k.2 = 1 ∨ k.2 = -1) ∧ ks.length ≤ 900 ∧ ∀ H', Keep [] H H' → Q (.bl true) H'
theorem ok_aF (h : Has K mg "are_flaps" sAF) (B : Blt mg) (CR : Can P w K mg base "are_rising_pairs" ["thing", "low", "high"] 3 spRPs) (CF : Can P w K mg base "is_flap_way" ["thing"] 2 spFW) : Can P w K mg base "are_flaps" ["length", "thing"] 4 spAF := by
  obtain ⟨f, fd, F, g⟩ := h
  refine ⟨f, fd, F.ok (k := 3) scAF (fun vs H Q E h => ?_) (fun cdv A outer s H vs Q E hr h => ?_), g, F.kp, F.binds fun _ _ _ _ _ _ us hl => match us, hl with | [_, _], _ => rfl⟩
  · obtain ⟨v, l, ks, rfl, _⟩ := h
    rfl
  · obtain ⟨v, l, ks, rfl, hv, rk, sk, lk, q⟩ := h
    refine ⟨_, pss_cons (ps_if (pt_not (pt_val (pe_can CR (hr.mono (by decide)) (by rfl) (pa_cons (pv 1) (pa_cons pe_int (pa_cons (pe_op op_sub (pv 0) pe_int) pa_nil)))))) (pss_one (ps_ret pe_bl)) pss_nil)
      (pss_one (ps_ret (pe_callB (cr_all rfl) (by rfl) B.all_ (by decide +kernel) (pa_cons (pe_lc (own := [("pair", 2)]) (g := gName 2) (tt := tYes) rfl scAF.nd (pi_tup (pv 1)) (blkOk_by (N := nAF) (sc := defScope sAF) (by decide +kernel)) (fun _ _ _ _ _ => (pg_name (i := 2) scAF.nd rfl (by first | exact Or.inl rfl | exact Or.inr rfl))) (fun _ _ _ _ _ => pts_nil) (fun _ _ _ _ _ => (pe_can CF (hr.mono (by decide)) (by rfl) (pa_cons (pe_ix (ix_tupK (K := K) rfl) (pv 2) pe_int (fun _ _ => rfl)) pa_nil)))) pa_nil)))), ?_⟩
    refine ⟨v, rfl, .int l, rfl, l, 1, rfl, rfl, v, 0, l - 1, ks, rfl, hv, rk, _, rfl, iteF ?_⟩
    obtain ⟨b, ys, rfl, _, eb, db⟩ := tup_at hv
    have ly := db.len
    rw [List.length_map] at ly
    refine ⟨.ref b, rfl, b, rfl, ⟨_, SqT.of eb⟩, fun W nW => ?_⟩
    refine lc_tup (K := K) (a := b) (xs := ys) (fun i G => Keep [] H G ∧ G W = some (.lst ((List.replicate i true).map V.bl))) ⟨Keep.new nW, upd_same⟩ (fun i G _ z => SqT.of (z.1 b _ eb List.not_mem_nil)) (fun i x G hx z => ?_) (fun G z => ?_)
    · obtain ⟨d, hd, dx⟩ := db.getv i hx
      rw [List.getElem?_map] at hd
      obtain ⟨k, gk, rfl⟩ := Option.map_eq_some_iff.mp hd
      obtain ⟨c, rfl, ec⟩ := pr_at dx
      have hi : i < ks.length := (List.getElem?_eq_some_iff.mp gk).1
      have hs := sk k (List.mem_of_getElem? gk)
      refine ⟨rfl, .ref c, rfl, c, _, 1, .int k.2, rfl, rfl, SqT.of (z.1 c _ ec List.not_mem_nil), atI_nat (j := 1) rfl, k.2, rfl, hs, fun G1 k1 => ?_⟩
      refine ⟨_, k1 W _ z.2 List.not_mem_nil, by rw [List.length_map, List.length_replicate]; exact small1000 (by omega), (z.1.trans k1).upd nW, ?_⟩
      rw [upd_same, List.replicate_succ', List.map_append]; rfl
    · refine ⟨W, List.replicate ys.length true, rfl, SqL.of z.2, ?_⟩
      have e1 : (List.replicate ys.length true).all id = true := by simp
      rw [e1]
      exact q G z.1
abbrev sIP : Stmt := topS 45
abbrev nIP : List Str := ["rooms", "thing", "one", "other", "length", "narrows", "flaps"]
theorem scIP : FnScope nIP ["rooms", "thing"] (defScope sIP) := ⟨rfl, rfl, rfl, by decide +kernel, rfl, by decide +kernel, by decide +kernel⟩
def spIP : Sp := fun vs H Q _ => ∃ (v : V) (n : Int) (p : Pi), vs = [.int n, v] ∧ Dt [] H v p.dat ∧ p.ok n ∧ ∀ H', Keep [] H H' → Q (.bl true) H'
theorem ok_iP (h : Has K mg "is_pipe" sIP) (cLONG : ∃ t, mg "LONG" = some (.int 1000000000000 t)) (CT : Can P w K mg base "is_tuple_of" ["thing", "many"] 1 spTupOf) (CW : Can P w K mg base "is_within" ["thing", "low", "high"] 2 spWithin) (CA : Can P w K mg base "are_narrows" ["length", "thing"] 4 spAN) (CF : Can P w K mg base "are_flaps" ["length", "thing"] 4 spAF) : Can P w K mg base "is_pipe" ["rooms", "thing"] 5 spIP := by
  obtain ⟨f, fd, F, g⟩ := h
  refine ⟨f, fd, F.ok (k := 4) scIP (fun vs H Q E h => ?_) (fun cdv A outer s H vs Q E hr h => ?_), g, F.kp, F.binds fun _ _ _ _ _ _ us hl => match us, hl with | [_, _], _ => rfl⟩
  · obtain ⟨v, n, p, rfl, _⟩ := h
    rfl
  · obtain ⟨v, n, p, rfl, hv, ok, q⟩ := h
    refine ⟨_, pss_cons (ps_if (pt_not (pt_val (pe_can CT (hr.mono (by decide)) (by rfl) (pa_cons (pv 1) (pa_cons pe_int pa_nil))))) (pss_one (ps_ret pe_bl)) pss_nil)
      (pss_cons (ps_asg (pv 1) (pg_tup (by rfl) (pgs_cons (pg_name (i := 2) scIP.nd rfl (by first | exact Or.inl rfl | exact Or.inr rfl)) (pgs_cons (pg_name (i := 3) scIP.nd rfl (by first | exact Or.inl rfl | exact Or.inr rfl)) (pgs_cons (pg_name (i := 4) scIP.nd rfl (by first | exact Or.inl rfl | exact Or.inr rfl)) (pgs_cons (pg_name (i := 5) scIP.nd rfl (by first | exact Or.inl rfl | exact Or.inr rfl)) (pgs_cons (pg_name (i := 6) scIP.nd rfl (by first | exact Or.inl rfl | exact Or.inr rfl)) pgs_nil)))))))
      (pss_cons (ps_if (PW.pt (pw_or (pt_not (pt_val (pe_can CW (hr.mono (by decide)) (by rfl) (pa_cons (pv 3) (pa_cons pe_int (pa_cons (pe_op op_sub (pv 0) pe_int) pa_nil)))))) (pw_or1 (pt_not (pt_val (pe_can CW (hr.mono (by decide)) (by rfl) (pa_cons (pv 2) (pa_cons pe_int (pa_cons (pe_op op_sub (pv 3) pe_int) pa_nil))))))))) (pss_one (ps_ret pe_bl)) pss_nil)
      (pss_cons (ps_if (pt_not (pt_val (pe_can CW (hr.mono (by decide)) (by rfl) (pa_cons (pv 4) (pa_cons pe_int (pa_cons (pe_glob (v := .int 1000000000000) rfl cLONG.choose_spec ⟨_, rfl⟩) pa_nil)))))) (pss_one (ps_ret pe_bl)) pss_nil)
      (pss_one (ps_ret (pe_and (pe_can CA (hr.mono (by decide)) (by rfl) (pa_cons (pv 4) (pa_cons (pv 5) pa_nil))) (pe_one (pe_can CF (hr.mono (by decide)) (by rfl) (pa_cons (pv 4) (pa_cons (pv 6) pa_nil)))))))))), ?_⟩
    have hv0 := hv
    obtain ⟨a, v3, v4, rfl, ea, d3, d4⟩ := pipe_is hv
    have x0 := ok.x0
    have y1 := ok.y1
    have xy := ok.xy
    have ft := ok.fit
    refine ⟨.ref a, rfl, .ref a, p.dat, [], 5, rfl, hv0, _, rfl, ?_⟩
    rw [show tupOf p.dat 5 = true from rfl]
    dsimp only [Bool.not_true]
    refine iteF ?_
    refine ⟨.ref a, rfl, a, _, rfl, SqT.of ea, rfl, _, _, rfl, _, _, rfl, _, _, rfl, _, _, rfl, _, [], rfl, rfl, ?_⟩
    refine ⟨.int p.y, rfl, .int n, rfl, n, 1, rfl, rfl, .int p.y, .int p.y, [], 1, _, rfl, .int _, _, rfl, ?_⟩
    rw [within_yes (show 1 ≤ p.y by omega) y1]
    dsimp only [Bool.not_true]
    refine iteF ?_
    refine ⟨.int p.x, rfl, .int p.y, rfl, p.y, 1, rfl, rfl, .int p.x, .int p.x, [], 0, _, rfl, .int _, _, rfl, ?_⟩
    rw [within_yes x0 (show p.x ≤ p.y - 1 by omega)]
    dsimp only [Bool.not_true]
    refine iteF ?_
    refine ⟨.int p.l, rfl, .int p.l, .int p.l, [], 1, _, rfl, .int _, _, rfl, ?_⟩
    rw [within_yes ft.l1 ft.l2]
    dsimp only [Bool.not_true]
    refine iteF ?_
    have nle := ft.nle
    have fle := ft.fle
    refine ⟨.int p.l, rfl, v3, rfl, v3, p.l, p.na, rfl, d3, rise_fit ft.nup (fun k m => ⟨(ft.nin k m).1, (ft.nin k m).2.1⟩), (fun k m => (ft.nin k m).2.2), by omega, fun H1 k1 => ⟨_, rfl, iteT ?_⟩⟩
    exact ⟨.int p.l, rfl, v4, rfl, v4, p.l, p.fl, rfl, d4.keep k1, rise_fit ft.fup (fun k m => ⟨(ft.fin k m).1, (ft.fin k m).2.1⟩), (fun k m => (ft.fin k m).2.2), by omega, fun H2 k2 => q H2 (k1.trans k2)⟩
abbrev sJA : Stmt := topS 49
abbrev nJA : List Str := ["rooms", "pipes", "groups", "pipe", "kept", "gone", "group"]
theorem scJA : FnScope nJA ["rooms", "pipes"] (defScope sJA) := ⟨rfl, rfl, rfl, by decide +kernel, rfl, by decide +kernel, by decide +kernel⟩
def spJA : Sp := fun vs H Q _ => ∃ (v : V) (n : Int) (ps : List Pi), vs = [.int n, v] ∧ Dt [] H v (.tuple (ps.map Pi.dat)) ∧ okH n ps ∧ ∀ H', Keep [] H H' → Q (.bl true) H'
theorem ok_jA (h : Has K mg "joins_all" sJA) (B : Blt mg) : Can P w K mg base "joins_all" ["rooms", "pipes"] 1 spJA := by
  obtain ⟨f, fd, F, g⟩ := h
  refine ⟨f, fd, F.ok (k := 0) scJA (fun vs H Q E h => ?_) (fun cdv A outer s H vs Q E hr h => ?_), g, F.kp, F.binds fun _ _ _ _ _ _ us hl => match us, hl with | [_, _], _ => rfl⟩
  · obtain ⟨v, n, ps, rfl, _⟩ := h
    rfl
  · obtain ⟨v, n, ps, rfl, hv, ok, q⟩ := h
    refine ⟨_, pss_cons (ps_set (i := 2) scJA.nd rfl (by first | exact Or.inl rfl | exact Or.inr rfl) (pe_listRg rfl (by rfl) B.list_ (prg_1 (by rfl) B.range_ (pv 0))))
      (pss_cons (ps_for PassesOwn.never rfl (pi_tup (pv 1)) (pg_name (i := 3) scJA.nd rfl (by first | exact Or.inl rfl | exact Or.inr rfl))
      (pss_cons (ps_set (i := 4) scJA.nd rfl (by first | exact Or.inl rfl | exact Or.inr rfl) (pe_ix ix_list (pv 2) (pe_ix ix_tup (pv 3) pe_int (fun _ _ => rfl)) (fun _ _ => rfl)))
      (pss_cons (ps_set (i := 5) scJA.nd rfl (by first | exact Or.inl rfl | exact Or.inr rfl) (pe_ix ix_list (pv 2) (pe_ix ix_tup (pv 3) pe_int (fun _ _ => rfl)) (fun _ _ => rfl)))
      (pss_cons (ps_if (pt_cmpR op_eq (pv 4) (pv 5) (nomark _)) (pss_one (ps_ret pe_bl)) pss_nil)
      (pss_one (ps_setLc (i := 2) (own := [("group", 6)]) (g := gName 6) (tt := tYes) rfl scJA.nd rfl rfl (sw_true rfl rfl rfl (by decide +kernel)) (pi_list (pv 2)) (blkOk_by (N := nJA) (sc := defScope sJA) (by decide +kernel)) (fun _ _ _ _ _ => (pg_name (i := 6) scJA.nd rfl (by first | exact Or.inl rfl | exact Or.inr rfl))) (fun _ _ _ _ _ => pts_nil) (fun _ _ _ _ _ => (pe_ifExp (pt_cmpR op_eq (pv 6) (pv 5) (nomark _)) (pv 4) (pv 6)))))))))
      (pss_one (ps_ret pe_bl))), ?_⟩
    have hj0 := ok.join
    have n1 := ok.n1
    have n16 := ok.n16
    obtain ⟨a, xs, rfl, _, ea, hs⟩ := tup_at hv
    refine ⟨.int n, rfl, n, rfl, RgOk.of_le (by decide) (by omega) (by decide) (by omega), fun g0 ng0 => ?_⟩
    rw [rg_start (by omega)]
    have k0 : Keep [] H (upd H g0 (.lst ((Rw.start n.toNat).map V.int))) := Keep.new ng0
    refine ⟨.ref a, rfl, a, rfl, ⟨_, SqT.of (k0.same a _ ea)⟩, for_tup (K := K) (a := a) (xs := xs)
      (fun i σ G => ∃ (gs : List Int) (ga : Addr) (s3 s4 s5 : Option V), σ = [some (.int n), some (.ref a), some (.ref ga), s3, s4, s5, none] ∧ Keep [] H G ∧ G ga = some (.lst (gs.map V.int)) ∧ Gs n.toNat gs ∧ joins gs ((edges ps).drop i) = true)
      ⟨_, g0, none, none, none, rfl, k0, upd_same, Gs.start _, hj0⟩ (fun i σ G _ p => ?_) (fun i x σ G hx p => ?_) (fun σ G p => ?_)⟩
    · obtain ⟨_, _, _, _, _, _, kG, _⟩ := p
      exact SqT.of (kG.same a _ ea)
    · obtain ⟨gs, ga, s3, s4, s5, rfl, kG, eg, hgs, hj⟩ := p
      obtain ⟨d, hd, dp⟩ := (hs.keep (Keep.of kG)).getv i hx
      rw [List.getElem?_map] at hd
      obtain ⟨p, hp, rfl⟩ := Option.map_eq_some_iff.mp hd
      have o := ok.ok p (List.mem_of_getElem? hp)
      have b1 := o.x0
      have b2 := o.x1
      have b3 := o.y0
      have b4 := o.y1
      have ed : (edges ps).drop i = (p.x.toNat, p.y.toNat) :: (edges ps).drop (i + 1) := by
        have hm : (edges ps)[i]? = some (p.x.toNat, p.y.toNat) := by unfold edges; rw [List.getElem?_map, hp]; rfl
        have hi' : i < (edges ps).length := (List.getElem?_eq_some_iff.mp hm).1
        rw [← List.getElem_cons_drop hi', (List.getElem?_eq_some_iff.mp hm).2]
      rw [ed] at hj
      obtain ⟨pa, v3, v4, rfl, eb, _, _⟩ := pipe_is dp
      have gl := hgs.len
      refine ⟨.ref ga, rfl, .ref pa, rfl, pa, _, 0, .int p.x, rfl, rfl, SqT.of eb, atI_nat (j := 0) rfl, ga, _, p.x, _, rfl, rfl, SqL.of eg, at_grp b1 (by omega), ?_⟩
      refine ⟨.ref ga, rfl, .ref pa, rfl, pa, _, 1, .int p.y, rfl, rfl, SqT.of eb, atI_nat (j := 1) rfl, ga, _, p.y, _, rfl, rfl, SqL.of eg, at_grp (by omega) (by omega), ?_⟩
      have hj' : (if grp gs p.x.toNat = grp gs p.y.toNat then false else joins (Rw.step gs (p.x.toNat, p.y.toNat)) ((edges ps).drop (i + 1))) = true := hj
      have t' : grp gs p.x.toNat ≠ grp gs p.y.toNat := fun z => by rw [if_pos z] at hj'; cases hj'
      rw [if_neg t'] at hj'
      refine ⟨_, rfl, _, rfl, rfl, _, rfl, ?_⟩
      rw [decide_eq_false (show ¬ V.int (grp gs p.x.toNat) = V.int (grp gs p.y.toNat) from fun z => t' (V.int.inj z))]
      refine iteF ?_
      refine ⟨.ref ga, rfl, ga, rfl, ⟨_, SqL.of eg⟩, fun W nW => ?_⟩
      refine lc_list (K := K) (a := ga) (xs := gs.map V.int) (fun j J => Keep [] G J ∧ J W = some (.lst (((gs.take j).map fun v => if v = grp gs p.y.toNat then grp gs p.x.toNat else v).map V.int)))
        ⟨Keep.new nW, upd_same⟩ (fun j J _ p => SqL.of (p.1.same ga _ eg)) (fun j z J hz y => ?_) (fun J y => ?_)
      · obtain ⟨kJ, eJ⟩ := y
        rw [List.getElem?_map] at hz
        obtain ⟨m, hn, rfl⟩ := Option.map_eq_some_iff.mp hz
        have hj2 : j < gs.length := (List.getElem?_eq_some_iff.mp hn).1
        refine ⟨rfl, .int m, rfl, _, rfl, rfl, _, rfl, ?_⟩
        have fin : ∀ (y : Int), y = (if m = grp gs p.y.toNat then grp gs p.x.toNat else m) → ∃ acc, J W = some (.lst acc) ∧ acc.length < sizeLine ∧ Keep [] G (upd J W (.lst (acc ++ [.int y]))) ∧ upd J W (.lst (acc ++ [.int y])) W = some (.lst (((gs.take (j + 1)).map fun v => if v = grp gs p.y.toNat then grp gs p.x.toNat else v).map V.int)) := fun y hy => by
          refine ⟨_, eJ, by rw [List.length_map, List.length_map, List.length_take]; exact small1000 (by omega), kJ.upd nW, ?_⟩
          rw [upd_same, List.take_add_one, hn, List.map_append, List.map_append, hy]; rfl
        refine ite2 (fun c => ?_) (fun c => ?_)
        · exact ⟨_, rfl, fin _ (by rw [if_pos (V.int.inj (of_decide_eq_true c))])⟩
        · exact ⟨_, rfl, fin _ (by rw [if_neg (fun z => c (decide_eq_true (by rw [z])))])⟩
      · obtain ⟨kJ, eJ⟩ := y
        rw [List.length_map, List.take_of_length_le (Nat.le_refl _)] at eJ
        exact ⟨Rw.step gs (p.x.toNat, p.y.toNat), W, _, _, _, rfl, kG.trans kJ, eJ, hgs.step (by show p.x.toNat < n.toNat; omega) (by show p.y.toNat < n.toNat; omega), hj'⟩
    · obtain ⟨gs, ga, s3, s4, s5, rfl, kG, eg, hgs, hj⟩ := p
      exact q G kG
abbrev sHF : Stmt := topS 50
abbrev nHF : List Str := ["pipes", "pipe", "narrows", "flaps"]
theorem scHF : FnScope nHF ["pipes"] (defScope sHF) := ⟨rfl, rfl, rfl, by decide +kernel, rfl, by decide +kernel, by decide +kernel⟩
def spHF : Sp := fun vs H Q _ => ∃ (v : V) (n : Int) (ps : List Pi), vs = [v] ∧ Dt [] H v (.tuple (ps.map Pi.dat)) ∧ okH n ps ∧ ∀ H', Keep [] H H' → Q (.bl true) H'
theorem ok_hF (h : Has K mg "holds_few" sHF) (B : Blt mg) (cNARROWS : ∃ t, mg "NARROWS" = some (.int 12 t)) (cFLAPS : ∃ t, mg "FLAPS" = some (.int 6 t)) : Can P w K mg base "holds_few" ["pipes"] 1 spHF := by
  obtain ⟨f, fd, F, g⟩ := h
  refine ⟨f, fd, F.ok (k := 0) scHF (fun vs H Q E h => ?_) (fun cdv A outer s H vs Q E hr h => ?_), g, F.kp, F.binds fun _ _ _ _ _ _ us hl => match us, hl with | [_], _ => rfl⟩
  · obtain ⟨v, n, ps, rfl, _⟩ := h
    rfl
  · obtain ⟨v, n, ps, rfl, hv, ok, q⟩ := h
    refine ⟨_, pss_cons (ps_set (i := 2) scHF.nd rfl (by first | exact Or.inl rfl | exact Or.inr rfl) (pe_callB (cr_sum rfl) (by rfl) B.sum_ (by decide +kernel) (pa_cons (pe_lc (own := [("pipe", 1)]) (g := gName 1) (tt := tYes) rfl scHF.nd (pi_tup (pv 0)) (blkOk_by (N := nHF) (sc := defScope sHF) (by decide +kernel)) (fun _ _ _ _ _ => (pg_name (i := 1) scHF.nd rfl (by first | exact Or.inl rfl | exact Or.inr rfl))) (fun _ _ _ _ _ => pts_nil) (fun _ _ _ _ _ => (pe_callB (call_len_seqK (K := K) rfl) (by rfl) B.len_ PySem.boot_len (pa_cons (pe_ix (ix_tupK (K := K) rfl) (pv 1) pe_int (fun _ _ => rfl)) pa_nil)))) pa_nil)))
      (pss_cons (ps_set (i := 3) scHF.nd rfl (by first | exact Or.inl rfl | exact Or.inr rfl) (pe_callB (cr_sum rfl) (by rfl) B.sum_ (by decide +kernel) (pa_cons (pe_lc (own := [("pipe", 1)]) (g := gName 1) (tt := tYes) rfl scHF.nd (pi_tup (pv 0)) (blkOk_by (N := nHF) (sc := defScope sHF) (by decide +kernel)) (fun _ _ _ _ _ => (pg_name (i := 1) scHF.nd rfl (by first | exact Or.inl rfl | exact Or.inr rfl))) (fun _ _ _ _ _ => pts_nil) (fun _ _ _ _ _ => (pe_callB (call_len_seqK (K := K) rfl) (by rfl) B.len_ PySem.boot_len (pa_cons (pe_ix (ix_tupK (K := K) rfl) (pv 1) pe_int (fun _ _ => rfl)) pa_nil)))) pa_nil)))
      (pss_one (ps_ret (pe_and (pe_cmpR op_le (pv 2) (pe_glob (v := .int 12) rfl cNARROWS.choose_spec ⟨_, rfl⟩) (nomark _)) (pe_one (pe_cmpR op_le (pv 3) (pe_glob (v := .int 6) rfl cFLAPS.choose_spec ⟨_, rfl⟩) (nomark _))))))), ?_⟩
    obtain ⟨a, xs, rfl, _, ea, hs⟩ := tup_at hv
    have lx := hs.len
    rw [List.length_map] at lx
    have n16 := ok.n16
    have lps := ok.len
    refine ⟨.ref a, rfl, a, rfl, ⟨_, SqT.of ea⟩, fun W nW => ?_⟩
    refine lc_tup (K := K) (a := a) (xs := xs) (fun j J => Keep [] H J ∧ J W = some (.lst ((((ps.take j).map fun p => p.na.length).map fun (n : Nat) => (n : Int)).map V.int)))
      ⟨Keep.new nW, upd_same⟩ (fun j J _ p => SqT.of (p.1.same a _ ea)) (fun j x J hx y => ?_) (fun J y => ?_)
    · obtain ⟨kJ, eJ⟩ := y
      obtain ⟨d, hd, dp⟩ := (hs.keep (Keep.of kJ)).getv j hx
      rw [List.getElem?_map] at hd
      obtain ⟨p, hp, rfl⟩ := Option.map_eq_some_iff.mp hd
      have hi : j < ps.length := (List.getElem?_eq_some_iff.mp hp).1
      obtain ⟨pa, v3, v4, rfl, eb, d3, d4⟩ := pipe_is dp
      obtain ⟨c, zs, rfl, _, ec, dc⟩ := tup_at d3
      have lz := dc.len
      rw [List.length_map] at lz
      refine ⟨rfl, _, rfl, _, _, 3, _, rfl, rfl, SqT.of eb, atI_nat (j := 3) rfl, _, _, rfl, .inr (SqT.of ec), _, eJ, by rw [List.length_map, List.length_map, List.length_map, List.length_take]; exact small1000 (by omega), kJ.upd nW, ?_⟩
      rw [upd_same, List.take_add_one, hp, List.map_append, List.map_append, List.map_append, lz]; rfl
    · obtain ⟨kJ, eJ⟩ := y
      rw [lx, List.take_of_length_le (Nat.le_refl _)] at eJ
      refine ⟨W, _, rfl, SqL.of eJ, ?_⟩
      rw [sum_ints]
      refine ⟨.ref a, rfl, a, rfl, ⟨_, SqT.of (kJ.same a _ ea)⟩, fun W2 nW2 => ?_⟩
      refine lc_tup (K := K) (a := a) (xs := xs) (fun j L => Keep [] J L ∧ L W2 = some (.lst ((((ps.take j).map fun p => p.fl.length).map fun (n : Nat) => (n : Int)).map V.int)))
        ⟨Keep.new nW2, upd_same⟩ (fun j L _ p => SqT.of ((kJ.trans p.1).same a _ ea)) (fun j x L hx y => ?_) (fun L y => ?_)
      · obtain ⟨kL, eL⟩ := y
        obtain ⟨d, hd, dp⟩ := (hs.keep (Keep.of (kJ.trans kL))).getv j hx
        rw [List.getElem?_map] at hd
        obtain ⟨p, hp, rfl⟩ := Option.map_eq_some_iff.mp hd
        have hi : j < ps.length := (List.getElem?_eq_some_iff.mp hp).1
        obtain ⟨pa, v3, v4, rfl, eb, d3, d4⟩ := pipe_is dp
        obtain ⟨c, zs, rfl, _, ec, dc⟩ := tup_at d4
        have lz := dc.len
        rw [List.length_map] at lz
        refine ⟨rfl, _, rfl, _, _, 4, _, rfl, rfl, SqT.of eb, atI_nat (j := 4) rfl, _, _, rfl, .inr (SqT.of ec), _, eL, by rw [List.length_map, List.length_map, List.length_map, List.length_take]; exact small1000 (by omega), kL.upd nW2, ?_⟩
        rw [upd_same, List.take_add_one, hp, List.map_append, List.map_append, List.map_append, lz]; rfl
      · obtain ⟨kL, eL⟩ := y
        rw [lx, List.take_of_length_le (Nat.le_refl _)] at eL
        refine ⟨W2, _, rfl, SqL.of eL, ?_⟩
        rw [sum_ints]
        have a1 := ok.na
        have a2 := ok.fl
        refine ⟨_, rfl, _, 12, rfl, rfl, _, rfl, ?_⟩
        rw [decide_eq_true (show (((ps.map fun p => p.na.length).sum : Nat) : Int) ≤ 12 by omega)]
        refine iteT ?_
        refine ⟨_, rfl, _, 6, rfl, rfl, ?_⟩
        show Q (.bl (decide ((((ps.map fun p => p.fl.length).sum : Nat) : Int) ≤ 6))) L
        rw [decide_eq_true (show (((ps.map fun p => p.fl.length).sum : Nat) : Int) ≤ 6 by omega)]
        exact q L (kJ.trans kL)
abbrev sIH : Stmt := topS 44
abbrev nIH : List Str := ["thing", "rooms", "pipes", "pipe"]
theorem scIH : FnScope nIH ["thing"] (defScope sIH) := ⟨rfl, rfl, rfl, by decide +kernel, rfl, by decide +kernel, by decide +kernel⟩
def spIH : Sp := fun vs H Q _ => ∃ (v : V) (n : Int) (ps : List Pi), vs = [v] ∧ Dt [] H v (houseD n (ps.map Pi.dat)) ∧ okH n ps ∧ ∀ H', Keep [] H H' → Q (.bl true) H'
theorem ok_iH (h : Has K mg "is_house" sIH) (cROOMS : ∃ t, mg "ROOMS" = some (.int 16 t)) (CT : Can P w K mg base "is_tuple_of" ["thing", "many"] 1 spTupOf) (CW : Can P w K mg base "is_within" ["thing", "low", "high"] 2 spWithin) (CI : Can P w K mg base "is_pipe" ["rooms", "thing"] 5 spIP) (CJ : Can P w K mg base "joins_all" ["rooms", "pipes"] 1 spJA) (CF : Can P w K mg base "holds_few" ["pipes"] 1 spHF) : Can P w K mg base "is_house" ["thing"] 6 spIH := by
  obtain ⟨f, fd, F, g⟩ := h
  refine ⟨f, fd, F.ok (k := 5) scIH (fun vs H Q E h => ?_) (fun cdv A outer s H vs Q E hr h => ?_), g, F.kp, F.binds fun _ _ _ _ _ _ us hl => match us, hl with | [_], _ => rfl⟩
  · obtain ⟨v, n, ps, rfl, _⟩ := h
    rfl
  · obtain ⟨v, n, ps, rfl, hv, ok, q⟩ := h
    refine ⟨_, pss_cons (ps_if (pt_not (pt_val (pe_can CT (hr.mono (by decide)) (by rfl) (pa_cons (pv 0) (pa_cons pe_int pa_nil))))) (pss_one (ps_ret pe_bl)) pss_nil)
      (pss_cons (ps_asg (pv 0) (pg_tup (by rfl) (pgs_cons (pg_name (i := 1) scIH.nd rfl (by first | exact Or.inl rfl | exact Or.inr rfl)) (pgs_cons (pg_name (i := 2) scIH.nd rfl (by first | exact Or.inl rfl | exact Or.inr rfl)) pgs_nil))))
      (pss_cons (ps_if (PW.pt (pw_or (pt_not (pt_val (pe_can CW (hr.mono (by decide)) (by rfl) (pa_cons (pv 1) (pa_cons pe_int (pa_cons (pe_glob (v := .int 16) rfl cROOMS.choose_spec ⟨_, rfl⟩) pa_nil)))))) (pw_or1 (pt_not (pt_val (pe_can CT (hr.mono (by decide)) (by rfl) (pa_cons (pv 2) (pa_cons (pe_op op_sub (pv 1) pe_int) pa_nil)))))))) (pss_one (ps_ret pe_bl)) pss_nil)
      (pss_cons (ps_for PassesOwn.never rfl (pi_tup (pv 2)) (pg_name (i := 3) scIH.nd rfl (by first | exact Or.inl rfl | exact Or.inr rfl))
      (pss_one (ps_if (pt_not (pt_val (pe_can CI (hr.mono (by decide)) (by rfl) (pa_cons (pv 1) (pa_cons (pv 3) pa_nil))))) (pss_one (ps_ret pe_bl)) pss_nil)))
      (pss_one (ps_ret (pe_and (pe_can CJ (hr.mono (by decide)) (by rfl) (pa_cons (pv 1) (pa_cons (pv 2) pa_nil))) (pe_one (pe_can CF (hr.mono (by decide)) (by rfl) (pa_cons (pv 2) pa_nil))))))))), ?_⟩
    have hv0 := hv
    obtain ⟨a, xs, rfl, _, ea, da⟩ := tup_at hv
    obtain ⟨w', rfl, dw⟩ : ∃ w', xs = [.int n, w'] ∧ Dt [] H w' (.tuple (ps.map Pi.dat)) := by
      cases da with
      | cons d1 da => cases d1; cases da with
        | cons d2 da => cases da; exact ⟨_, rfl, d2⟩
    have n1 := ok.n1
    have n16 := ok.n16
    have lps := ok.len
    refine ⟨.ref a, rfl, .ref a, houseD n (ps.map Pi.dat), [], 2, rfl, hv0, _, rfl, ?_⟩
    rw [show tupOf (houseD n (ps.map Pi.dat)) 2 = true from rfl]
    dsimp only [Bool.not_true]
    refine iteF ?_
    refine ⟨.ref a, rfl, a, _, rfl, SqT.of ea, rfl, _, _, rfl, _, [], rfl, rfl, ?_⟩
    refine ⟨.int n, rfl, .int n, .int n, [], 1, _, rfl, .int _, _, rfl, ?_⟩
    rw [within_yes n1 n16]
    dsimp only [Bool.not_true]
    refine iteF ?_
    refine ⟨w', rfl, .int n, rfl, n, 1, rfl, rfl, w', _, [], n - 1, rfl, dw, _, rfl, ?_⟩
    rw [show tupOf (.tuple (ps.map Pi.dat)) (n - 1) = true from decide_eq_true (by rw [List.length_map]; omega)]
    dsimp only [Bool.not_true]
    refine iteF ?_
    have dw0 := dw
    obtain ⟨b, ys, rfl, _, eb, db⟩ := tup_at dw
    refine ⟨_, rfl, b, rfl, ⟨_, SqT.of eb⟩, for_tup (K := K) (a := b) (xs := ys) (fun i σ J => Keep [] H J ∧ ∃ (s3 : Option V), σ = [some (.ref a), some (.int n), some (.ref b), s3]) ⟨Keep.refl _ _, none, rfl⟩ (fun i σ J _ z => SqT.of (z.1 b _ eb List.not_mem_nil)) (fun i x σ J hx z => ?_) (fun σ J z => ?_)⟩
    · obtain ⟨kJ, s3, rfl⟩ := z
      obtain ⟨d, hd, dp⟩ := db.getv i hx
      rw [List.getElem?_map] at hd
      obtain ⟨p, hp, rfl⟩ := Option.map_eq_some_iff.mp hd
      refine ⟨.int n, rfl, x, rfl, x, n, p, rfl, dp.keep kJ, ok.ok p (List.mem_of_getElem? hp), fun J1 k1 => ⟨_, rfl, iteF ?_⟩⟩
      exact ⟨kJ.trans k1, _, rfl⟩
    · obtain ⟨kJ, s3, rfl⟩ := z
      refine ⟨.int n, rfl, .ref b, rfl, .ref b, n, ps, rfl, dw0.keep kJ, ok, fun J1 k1 => ⟨_, rfl, iteT ?_⟩⟩
      exact ⟨.ref b, rfl, .ref b, n, ps, rfl, dw0.keep (kJ.trans k1), ok, fun J2 k2 => q J2 (kJ.trans (k1.trans k2))⟩
end
end Rw

namespace Rw
open PySem PySem.Spec PyProof.Rows L2
/-! ### same, of the same data twice: numbers, truths, texts, tuples and lists of these -/
def Fi4 (W : Addr) (H : Hp) (ok : Nat → Bool) (i : Nat) (J : Hp) : Prop := Keep [] H J ∧ ∃ ws, J W = some (.lst ws) ∧ ws.length ≤ i ∧ ws.isEmpty = (List.range i).all ok
theorem Fi4.start {W : Addr} {H : Hp} {ok : Nat → Bool} (n : H W = none) : Fi4 W H ok 0 (upd H W (.lst [])) := ⟨Keep.new n, [], upd_same, Nat.le_refl _, rfl⟩
theorem Fi4.skip {W : Addr} {H J : Hp} {ok : Nat → Bool} {i : Nat} (h : Fi4 W H ok i J) (o : ok i = true) : Fi4 W H ok (i + 1) J := by
  obtain ⟨k, ws, e, l, z⟩ := h
  refine ⟨k, ws, e, by omega, ?_⟩
  rw [List.range_succ, List.all_append, z, List.all_cons, o]; simp
theorem Fi4.put {W : Addr} {H J J2 : Hp} {ok : Nat → Bool} {i : Nat} {x : V} (h : Fi4 W H ok i J) (k2 : Keep [] J J2) (n : H W = none) (hi : i ≤ 100000) (o : ok i = false) : ∃ acc, J2 W = some (.lst acc) ∧ acc.length < sizeLine ∧ Fi4 W H ok (i + 1) (upd J2 W (.lst (acc ++ [x]))) := by
  obtain ⟨k, ws, e, l, z⟩ := h
  refine ⟨ws, k2.same W _ e, by rw [sizeLine_eq]; omega, (k.trans k2).upd n, ws ++ [x], upd_same, by rw [List.length_append, List.length_singleton]; omega, ?_⟩
  rw [List.range_succ, List.all_append, List.all_cons, o]
  cases ws <;> simp
theorem Fi4.go {W : Addr} {H J J2 : Hp} {ok : Nat → Bool} {i : Nat} (h : Fi4 W H ok i J) (k2 : Keep [] J J2) : Fi4 W H ok i J2 := by
  obtain ⟨k, ws, e, l, z⟩ := h
  exact ⟨k.trans k2, ws, k2.same W _ e, l, z⟩
theorem kit_lst_l4 {K : PySem.W.Frag} : PySem.W.kitAny K (.type "list") [.type "list", .type "tuple"] = some true :=
  kitAny_cons (kit_ty (r := true) (by decide +kernel)) (fun e => by cases e) (fun _ => rfl)
theorem kit_bool_l4 {K : PySem.W.Frag} : PySem.W.kitAny K (.type "bool") [.type "list", .type "tuple"] = some false :=
  kitAny_cons (kit_ty (r := false) (by decide +kernel)) (fun _ => kitAny_cons (kit_ty (r := false) (by decide +kernel)) (fun _ => rfl) (fun e => by cases e)) (fun e => by cases e)
theorem kit_str_lt {K : PySem.W.Frag} : PySem.W.kitAny K (.type "str") [.type "list", .type "tuple"] = some false :=
  kitAny_cons (kit_ty (r := false) (by decide +kernel)) (fun _ => kitAny_cons (kit_ty (r := false) (by decide +kernel)) (fun _ => rfl) (fun e => by cases e)) (fun e => by cases e)
inductive IS : Nat → PyData → Prop
  | int (m : Nat) (i : Int) : IS m (.int i)
  | bool (m : Nat) (b : Bool) : IS m (.bool b)
  | str (m : Nat) (x : Str) : IS m (.str x)
  | tup {m : Nat} {ds : List PyData} : ds.length ≤ 1000 → (∀ d ∈ ds, IS m d) → IS (m + 1) (.tuple ds)
  | lst {m : Nat} {ds : List PyData} : ds.length ≤ 1000 → (∀ d ∈ ds, IS m d) → IS (m + 1) (.list ds)
def leafS : PyData → Bool
  | .int _ => true
  | .bool _ => true
  | .str _ => true
  | _ => false
end Rw

namespace Rw
/-! ### a pipe made longer: distances -/
def setL (ps : List Pi) (i b : Int) : List Pi := ps.set i.toNat { pr ps i with l := (pr ps i).l + b }
theorem setL_len (ps : List Pi) (i b : Int) : (setL ps i b).length = ps.length := by unfold setL; rw [List.length_set]
theorem setL_at {ps : List Pi} {i b : Int} (h0 : 0 ≤ i) (h1 : i < ps.length) : (setL ps i b)[i.toNat]? = some { pr ps i with l := (pr ps i).l + b } := by
  unfold setL; rw [List.getElem?_set_self (by omega)]
theorem setL_ne {ps : List Pi} {i b : Int} {j : Nat} (h : j ≠ i.toNat) : (setL ps i b)[j]? = ps[j]? := by
  unfold setL; rw [List.getElem?_set_ne (Ne.symm h)]
theorem pr_setL {ps : List Pi} {i b j : Int} (h0 : 0 ≤ i) (h1 : i < ps.length) (k0 : 0 ≤ j) (k1 : j < ps.length) : pr (setL ps i b) j = if j = i then { pr ps i with l := (pr ps i).l + b } else pr ps j := by
  by_cases e : j = i
  · subst e
    rw [if_pos rfl]
    have z := pr_of (setL_at (b := b) h0 h1)
    rw [show ((j.toNat : Nat) : Int) = j by omega] at z
    exact z
  · rw [if_neg e]
    have z := pr_of (ps := setL ps i b) (j := j.toNat) (p := pr ps j) (by rw [setL_ne (by omega)]; exact (pr_mem k0 k1).2)
    rw [show ((j.toNat : Nat) : Int) = j by omega] at z
    exact z
/-! which rooms lie beyond the pipe's far end -/
def ysd (ps : List Pi) (d : Int → Int → Int) (i r : Int) : Bool := decide (d r (pr ps i).y < d r (pr ps i).x)
def d2 (ps : List Pi) (d : Int → Int → Int) (i b s t : Int) : Int := d s t + if ysd ps d i s = ysd ps d i t then 0 else b
section
variable {n : Int} {ps : List Pi} {d : Int → Int → Int} {i b : Int} (T : Tm n ps d) (h0 : 0 ≤ i) (h1 : i < ps.length) (hb : 0 ≤ b)
include T h0 h1
theorem ysd_x : ysd ps d i (pr ps i).x = false ∧ ysd ps d i (pr ps i).y = true := by
  obtain ⟨o1, o2, o3⟩ := T.own h0 h1
  have l1 := (T.at h0 h1).2.2.2.2
  have z1 := T.zero (pr ps i).x
  have z2 := T.zero (pr ps i).y
  unfold ysd
  exact ⟨decide_eq_false (by omega), decide_eq_true (by omega)⟩
theorem ysd_t {r : Int} (r0 : 0 ≤ r) (r1 : r < n) (h : ysd ps d i r = true) : d r (pr ps i).x = d r (pr ps i).y + (pr ps i).l := by
  have l1 := (T.at h0 h1).2.2.2.2
  have := of_decide_eq_true h
  have := T.stp h0 h1 r0 r1
  omega
theorem ysd_f {r : Int} (r0 : 0 ≤ r) (r1 : r < n) (h : ysd ps d i r = false) : d r (pr ps i).y = d r (pr ps i).x + (pr ps i).l := by
  have l1 := (T.at h0 h1).2.2.2.2
  have := of_decide_eq_false h
  have := T.stp h0 h1 r0 r1
  omega
theorem ysd_ends {j : Int} (k0 : 0 ≤ j) (k1 : j < ps.length) (ne : j ≠ i) : ysd ps d i (pr ps j).x = ysd ps d i (pr ps j).y := by
  have := T.sd h0 h1 k0 k1 ne
  unfold ysd
  exact decide_eq_decide.mpr (by omega)
theorem ysd_endsN {j : Nat} {p : Pi} (e : ps[j]? = some p) (ne : j ≠ i.toNat) : ysd ps d i p.x = ysd ps d i p.y := by
  have hj : j < ps.length := (List.getElem?_eq_some_iff.mp e).1
  have z := ysd_ends T h0 h1 (j := (j : Int)) (by omega) (by omega) (by omega)
  rw [pr_of e] at z; exact z
include hb
theorem dn_long {s t : Int} (s0 : 0 ≤ s) (s1 : s < n) {j : Nat} : Dn (setL ps i b) (d2 ps d i b) s t j ↔ Dn ps d s t j := by
  by_cases ej : j = i.toNat
  · subst ej
    obtain ⟨yx, yy⟩ := ysd_x T h0 h1
    have l1 := (T.at h0 h1).2.2.2.2
    have key : ((pr ps i).x = t ∧ d2 ps d i b s (pr ps i).y + ((pr ps i).l + b) = d2 ps d i b s t ∨ (pr ps i).y = t ∧ d2 ps d i b s (pr ps i).x + ((pr ps i).l + b) = d2 ps d i b s t) ↔
        ((pr ps i).x = t ∧ d s (pr ps i).y + (pr ps i).l = d s t ∨ (pr ps i).y = t ∧ d s (pr ps i).x + (pr ps i).l = d s t) := by
      unfold d2
      rw [yx, yy]
      cases hs : ysd ps d i s with
      | true =>
        have q := ysd_t T h0 h1 s0 s1 hs
        constructor
        · rintro (⟨rfl, z⟩ | ⟨rfl, z⟩)
          · rw [yx] at z; simp at z; exact .inl ⟨rfl, by omega⟩
          · rw [yy] at z; simp at z; exact .inr ⟨rfl, by omega⟩
        · rintro (⟨rfl, z⟩ | ⟨rfl, z⟩)
          · rw [yx]; simp; exact .inl (by omega)
          · exfalso; omega
      | false =>
        have q := ysd_f T h0 h1 s0 s1 hs
        constructor
        · rintro (⟨rfl, z⟩ | ⟨rfl, z⟩)
          · rw [yx] at z; simp at z; exfalso; omega
          · rw [yy] at z; simp at z; exact .inr ⟨rfl, by omega⟩
        · rintro (⟨rfl, z⟩ | ⟨rfl, z⟩)
          · exfalso; omega
          · rw [yy]; simp; exact .inr (by omega)
    constructor
    · rintro ⟨p, e, h⟩
      rw [setL_at h0 h1] at e
      cases e
      exact ⟨_, (pr_mem h0 h1).2, key.mp h⟩
    · rintro ⟨p, e, h⟩
      rw [(pr_mem h0 h1).2] at e
      cases e
      exact ⟨_, setL_at h0 h1, key.mpr h⟩
  · constructor
    · rintro ⟨p, e, h⟩
      rw [setL_ne ej] at e
      have en := ysd_endsN T h0 h1 e ej
      refine ⟨p, e, ?_⟩
      unfold d2 at h
      rcases h with ⟨rfl, z⟩ | ⟨rfl, z⟩
      · rw [en] at z; exact .inl ⟨rfl, by omega⟩
      · rw [en] at z; exact .inr ⟨rfl, by omega⟩
    · rintro ⟨p, e, h⟩
      have en := ysd_endsN T h0 h1 e ej
      refine ⟨p, by rw [setL_ne ej]; exact e, ?_⟩
      unfold d2
      rcases h with ⟨rfl, z⟩ | ⟨rfl, z⟩
      · rw [en]; exact .inl ⟨rfl, by omega⟩
      · rw [en]; exact .inr ⟨rfl, by omega⟩
theorem Tm.long : Tm n (setL ps i b) (d2 ps d i b) := by
  obtain ⟨yx, yy⟩ := ysd_x T h0 h1
  have hat := T.at h0 h1
  have look : ∀ {j : Nat} {p : Pi}, (setL ps i b)[j]? = some p → (j = i.toNat ∧ p = { pr ps i with l := (pr ps i).l + b }) ∨ (j ≠ i.toNat ∧ ps[j]? = some p) := fun {j p} e => by
    by_cases ej : j = i.toNat
    · subst ej; rw [setL_at h0 h1] at e; exact .inl ⟨rfl, (Option.some.inj e).symm⟩
    · rw [setL_ne ej] at e; exact .inr ⟨ej, e⟩
  have mem : ∀ {p : Pi}, p ∈ setL ps i b → ∃ j, (setL ps i b)[j]? = some p := fun {p} m => by
    obtain ⟨j, hj, e⟩ := List.mem_iff_getElem.mp m
    exact ⟨j, by rw [List.getElem?_eq_getElem hj, e]⟩
  refine ⟨fun p m => ?_, fun s => ?_, fun s t => ?_, fun s t a1 a2 a3 a4 ne => ?_, fun p m s a1 a2 => ?_, fun s t a1 a2 a3 a4 ne => ?_, fun s t j k a1 a2 a3 a4 e1 e2 => ?_, fun j k p q ne e1 e2 => ?_⟩
  · obtain ⟨j, e⟩ := mem m
    rcases look e with ⟨_, rfl⟩ | ⟨_, e⟩
    · exact ⟨hat.1, hat.2.1, hat.2.2.1, hat.2.2.2.1, by show 1 ≤ (pr ps i).l + b; omega⟩
    · exact T.ok p (List.mem_of_getElem? e)
  · unfold d2; rw [if_pos rfl, T.zero]; rfl
  · unfold d2
    rw [T.sym s t]
    by_cases h : ysd ps d i s = ysd ps d i t
    · rw [if_pos h, if_pos h.symm]
    · rw [if_neg h, if_neg (Ne.symm h)]
  · have := T.pos s t a1 a2 a3 a4 ne
    unfold d2; split <;> omega
  · obtain ⟨j, e⟩ := mem m
    rcases look e with ⟨_, rfl⟩ | ⟨ej, e⟩
    · show d2 ps d i b s (pr ps i).x = d2 ps d i b s (pr ps i).y + ((pr ps i).l + b) ∨ d2 ps d i b s (pr ps i).y = d2 ps d i b s (pr ps i).x + ((pr ps i).l + b)
      unfold d2
      rw [yx, yy]
      cases hs : ysd ps d i s with
      | true => have q := ysd_t T h0 h1 a1 a2 hs; simp; omega
      | false => have q := ysd_f T h0 h1 a1 a2 hs; simp; omega
    · have en := ysd_endsN T h0 h1 e ej
      have st := T.step p (List.mem_of_getElem? e) s a1 a2
      unfold d2
      rw [en]; omega
  · obtain ⟨j, hj⟩ := T.par s t a1 a2 a3 a4 ne
    exact ⟨j, (dn_long T h0 h1 hb a1 a2).mpr hj⟩
  · exact T.uni s t j k a1 a2 a3 a4 ((dn_long T h0 h1 hb a1 a2).mp e1) ((dn_long T h0 h1 hb a1 a2).mp e2)
  · rcases look e1 with ⟨j1, rfl⟩ | ⟨j1, f1⟩ <;> rcases look e2 with ⟨k1, rfl⟩ | ⟨k1, f2⟩
    · exact absurd (j1.trans k1.symm) ne
    · have en := ysd_endsN T h0 h1 f2 k1
      have sd := T.side j k _ q ne (by rw [j1]; exact (pr_mem h0 h1).2) f2
      show d2 ps d i b (pr ps i).x q.x - d2 ps d i b (pr ps i).y q.x = d2 ps d i b (pr ps i).x q.y - d2 ps d i b (pr ps i).y q.y
      unfold d2
      rw [en]; omega
    · have en := ysd_endsN T h0 h1 f1 j1
      have sd := T.side j k p _ ne f1 (by rw [k1]; exact (pr_mem h0 h1).2)
      show d2 ps d i b p.x (pr ps i).x - d2 ps d i b p.y (pr ps i).x = d2 ps d i b p.x (pr ps i).y - d2 ps d i b p.y (pr ps i).y
      unfold d2
      rw [en]; omega
    · have en1 := ysd_endsN T h0 h1 f1 j1
      have en2 := ysd_endsN T h0 h1 f2 k1
      have sd := T.side j k p q ne f1 f2
      unfold d2
      rw [en1, en2]; omega
end
/-! the same of places -/
def ysP (ps : List Pi) (d : Int → Int → Int) (i : Int) : Pl → Bool
  | [r] => ysd ps d i r
  | [j, _] => if j = i then false else ysd ps d i (pr ps j).x
  | _ => false
section
variable {n : Int} {ps : List Pi} {d : Int → Int → Int} {i b : Int} (T : Tm n ps d) (h0 : 0 ≤ i) (h1 : i < ps.length) (hb : 0 ≤ b)
include T h0 h1 hb
theorem ok_long {p : Pl} (hp : okP n ps p) : okP n (setL ps i b) p := by
  rcases ok_cases hp with ⟨r, rfl, r0, r1⟩ | ⟨j, a, rfl, k0, k1, a0, a1⟩
  · exact ⟨r0, r1⟩
  · refine ⟨k0, by rw [setL_len]; exact k1, a0, ?_⟩
    rw [pr_setL h0 h1 k0 k1]
    split
    · rename_i e; subst e; show a ≤ (pr ps j).l + b - 1; omega
    · exact a1
theorem dr_long {r j a : Int} (r0 : 0 ≤ r) (r1 : r < n) (k0 : 0 ≤ j) (k1 : j < ps.length) (a0 : 1 ≤ a) (a1 : a ≤ (pr ps j).l - 1) :
    dr (setL ps i b) (d2 ps d i b) r j a = dr ps d r j a + if ysd ps d i r = ysP ps d i [j, a] then 0 else b := by
  obtain ⟨yx, yy⟩ := ysd_x T h0 h1
  unfold dr
  rw [pr_setL h0 h1 k0 k1]
  by_cases e : j = i
  · subst e
    rw [if_pos rfl]
    show min (d2 ps d j b r (pr ps j).x + a) (d2 ps d j b r (pr ps j).y + ((pr ps j).l + b - a)) = _
    show _ = _ + if ysd ps d j r = (if j = j then false else _) then 0 else b
    rw [if_pos rfl]
    unfold d2
    rw [yx, yy]
    cases hs : ysd ps d j r with
    | true => have q := ysd_t T h0 h1 r0 r1 hs; simp; omega
    | false => have q := ysd_f T h0 h1 r0 r1 hs; simp; omega
  · rw [if_neg e]
    have en := ysd_ends T h0 h1 k0 k1 e
    show min (d2 ps d i b r (pr ps j).x + a) (d2 ps d i b r (pr ps j).y + ((pr ps j).l - a)) = _ + if ysd ps d i r = (if j = i then false else ysd ps d i (pr ps j).x) then 0 else b
    rw [if_neg e]
    unfold d2
    rw [en]; omega
theorem Dp_long {p q : Pl} (hp : okP n ps p) (hq : okP n ps q) : Dp (setL ps i b) (d2 ps d i b) p q = Dp ps d p q + if ysP ps d i p = ysP ps d i q then 0 else b := by
  rcases ok_cases hp with ⟨r, rfl, r0, r1⟩ | ⟨j, a, rfl, k0, k1, a0, a1⟩ <;> rcases ok_cases hq with ⟨t, rfl, t0, t1⟩ | ⟨k, c, rfl, m0, m1, c0, c1⟩
  · rfl
  · exact dr_long T h0 h1 hb r0 r1 m0 m1 c0 c1
  · show dr _ _ t j a = dr ps d t j a + _
    rw [dr_long T h0 h1 hb t0 t1 k0 k1 a0 a1]
    show _ + (if ysd ps d i t = _ then 0 else b) = _ + (if _ = ysd ps d i t then 0 else b)
    by_cases z : ysd ps d i t = ysP ps d i [j, a]
    · rw [if_pos z, if_pos z.symm]
    · rw [if_neg z, if_neg (Ne.symm z)]
  · show (if j = k then ab a c else _) = (if j = k then ab a c else _) + _
    by_cases e : j = k
    · subst e
      rw [if_pos rfl, if_pos rfl]
      have z : ysP ps d i [j, a] = ysP ps d i [j, c] := rfl
      rw [if_pos z]; omega
    · rw [if_neg e, if_neg e, pr_setL h0 h1 k0 k1]
      obtain ⟨x0, x1, y0, y1, _⟩ := T.at k0 k1
      obtain ⟨yx, yy⟩ := ysd_x T h0 h1
      by_cases ej : j = i
      · subst ej
        rw [if_pos rfl]
        show min (a + dr _ _ (pr ps j).x k c) ((pr ps j).l + b - a + dr _ _ (pr ps j).y k c) = _
        rw [dr_long T h0 h1 hb x0 x1 m0 m1 c0 c1, dr_long T h0 h1 hb y0 y1 m0 m1 c0 c1, yx, yy]
        have w : ysP ps d j [j, a] = false := if_pos rfl
        rw [w]
        have en := ysd_ends T h0 h1 m0 m1 (Ne.symm e)
        have ek : ysP ps d j [k, c] = ysd ps d j (pr ps k).x := if_neg (Ne.symm e)
        obtain ⟨u0, u1, v0, v1, _⟩ := T.at m0 m1
        have q1 := ysd_t T h0 h1 u0 u1
        have q2 := ysd_f T h0 h1 u0 u1
        have q3 := ysd_t T h0 h1 v0 v1
        have q4 := ysd_f T h0 h1 v0 v1
        have s1 := T.sym (pr ps k).x (pr ps j).x
        have s2 := T.sym (pr ps k).x (pr ps j).y
        have s3 := T.sym (pr ps k).y (pr ps j).x
        have s4 := T.sym (pr ps k).y (pr ps j).y
        rw [ek]
        unfold dr
        cases hk : ysd ps d j (pr ps k).x with
        | true => have w1 := q1 hk; have w2 := q3 (en ▸ hk); simp; omega
        | false => have w1 := q2 hk; have w2 := q4 (en ▸ hk); simp; omega
      · rw [if_neg ej, dr_long T h0 h1 hb x0 x1 m0 m1 c0 c1, dr_long T h0 h1 hb y0 y1 m0 m1 c0 c1]
        have en := ysd_ends T h0 h1 k0 k1 ej
        have w : ysP ps d i [j, a] = ysd ps d i (pr ps j).x := if_neg ej
        rw [w, ← en]; omega
omit hb
/-! beyond: nearer to the far end than to the place ahead of it -/
theorem ysP_near {p : Pl} (hp : okP n ps p) : (ysP ps d i p = true → Dp ps d p (nm ps i ((pr ps i).l - 1)) = Dp ps d p [(pr ps i).y] + 1) ∧ (ysP ps d i p = false → Dp ps d p [(pr ps i).y] = Dp ps d p (nm ps i ((pr ps i).l - 1)) + 1) := by
  obtain ⟨x0, x1, y0, y1, l1⟩ := T.at h0 h1
  rw [← nm_l (ps := ps) (i := i) (by omega)]
  rcases ok_cases hp with ⟨r, rfl, r0, r1⟩ | ⟨j, a, rfl, k0, k1, a0, a1⟩
  · rw [Dp_room T h0 h1 r0 r1, Dp_room T h0 h1 r0 r1]
    unfold dr
    exact ⟨fun h => by have := ysd_t T h0 h1 r0 r1 h; omega, fun h => by have := ysd_f T h0 h1 r0 r1 h; omega⟩
  · by_cases e : j = i
    · subst e
      rw [Dp_same T h0 h1 a0 a1, Dp_same T h0 h1 a0 a1]
      have w : ysP ps d j [j, a] = false := if_pos rfl
      rw [w]
      refine ⟨fun h => (by cases h), fun _ => ?_⟩
      unfold ab; split <;> split <;> omega
    · have w : ysP ps d i [j, a] = ysd ps d i (pr ps j).x := if_neg e
      have en := ysd_ends T h0 h1 k0 k1 e
      obtain ⟨u0, u1, v0, v1, _⟩ := T.at k0 k1
      have q1 := ysd_t T h0 h1 u0 u1
      have q2 := ysd_f T h0 h1 u0 u1
      have q3 := ysd_t T h0 h1 v0 v1
      have q4 := ysd_f T h0 h1 v0 v1
      rw [w, Dp_else T h0 h1 k0 k1 e a0 a1 _ (by omega) (by omega), Dp_else T h0 h1 k0 k1 e a0 a1 _ (by omega) (by omega)]
      unfold dr
      refine ⟨fun h => ?_, fun h => ?_⟩
      · have w1 := q1 h; have w2 := q3 (en ▸ h); split <;> omega
      · have w1 := q2 h; have w2 := q4 (en ▸ h); split <;> omega
end
section
variable {n : Int} {ps : List Pi} {d : Int → Int → Int} (T : Tm n ps d)
include T
/-! a step that lies between two places, seen from both -/
theorem cross {p u w : Pl} (hp : okP n ps p) (hu : okP n ps u) (hw : okP n ps w) (au : Adj ps w u) (e : Dp ps d p w = Dp ps d p u + 1) :
    ∀ (k : Nat) (q : Pl), okP n ps q → (Dp ps d w q).toNat = k → Dp ps d q u = Dp ps d q w + 1 → Dp ps d p q = Dp ps d p u + 1 + Dp ps d w q
  | 0, q, hq, ek, _ => by
    have z := Dp_nn T hw hq
    have := Dp_eq0 T hw hq (by omega)
    subst this
    omega
  | k + 1, q, hq, ek, eq => by
    have z := Dp_nn T hw hq
    have ne : q ≠ w := fun h => by rw [h, Dp_self T hw] at ek; cases ek
    obtain ⟨q1, a1, e1⟩ := Dp_par T hw hq ne
    have h1 := ok_adj T a1
    have s1 := Dp_sym T hq hw
    have s2 := Dp_sym T h1 hw
    have s3 := Dp_sym T hq hu
    have s4 := Dp_sym T h1 hu
    have st := Dp_step T hu a1
    have stw := Dp_step T h1 au
    have z1 := Dp_nn T hw h1
    have eq1 : Dp ps d q1 u = Dp ps d q1 w + 1 := by omega
    have ih := cross hp hu hw au e k q1 h1 (by omega) eq1
    rcases Dp_step T hp a1 with g | g
    · exfalso
      by_cases c : q1 = w
      · subst c
        have := Dp_uni T hp hw a1.symm au g e
        subst this
        rw [Dp_self T hq] at eq
        have := Dp_nn T hq h1
        omega
      · obtain ⟨q2, a2, e2⟩ := Dp_par T hw h1 c
        have h2 := ok_adj T a2
        have s5 := Dp_sym T h2 hw
        have s6 := Dp_sym T h2 hu
        have st2 := Dp_step T hu a2
        have stw2 := Dp_step T h2 au
        have ih2 := cross hp hu hw au e (k - 1) q2 h2 (by have := Dp_nn T hw h2; omega) (by omega)
        have := Dp_uni T hp h1 a1.symm a2 g (by omega)
        subst this
        omega
    · omega
termination_by k => k
end
section
variable {n : Int} {ps : List Pi} {d : Int → Int → Int} {i b : Int} (T : Tm n ps d) (h0 : 0 ≤ i) (h1 : i < ps.length) (hb : 0 ≤ b)
include T h0 h1
theorem ysP_btw {p q : Pl} (hp : okP n ps p) (hq : okP n ps q) : (ysP ps d i p = ysP ps d i q) ↔ ¬ (Btw ps d p q [(pr ps i).y] ∧ Btw ps d p q (nm ps i ((pr ps i).l - 1))) := by
  obtain ⟨x0, x1, y0, y1, l1⟩ := T.at h0 h1
  have hy : okP n ps [(pr ps i).y] := ⟨y0, y1⟩
  have hw : okP n ps (nm ps i ((pr ps i).l - 1)) := ok_nm T h0 h1 (by omega) (by omega)
  have aw : Adj ps (nm ps i ((pr ps i).l - 1)) [(pr ps i).y] := ⟨i, (pr ps i).l - 1, h0, h1, by omega, by omega, .inl ⟨rfl, by rw [show (pr ps i).l - 1 + 1 = (pr ps i).l by omega, nm_l (by omega)]⟩⟩
  have np := ysP_near T h0 h1 hp
  have nq := ysP_near T h0 h1 hq
  have s1 := Dp_sym T hq hy
  have s2 := Dp_sym T hq hw
  have s3 := Dp_sym T hp hy
  have s4 := Dp_sym T hp hw
  have s5 := Dp_sym T hp hq
  unfold Btw
  cases e1 : ysP ps d i p <;> cases e2 : ysP ps d i q
  · have a1 := np.2 e1; have a2 := nq.2 e2
    refine ⟨fun _ h => ?_, fun _ => rfl⟩
    omega
  · have a1 := np.2 e1; have a2 := nq.1 e2
    have c := cross T hp hw hy aw.symm a1 _ q hq rfl a2
    refine ⟨fun h => (by cases h), fun h => absurd ⟨?_, ?_⟩ h⟩ <;> omega
  · have a1 := np.1 e1; have a2 := nq.2 e2
    have c := cross T hp hy hw aw a1 _ q hq rfl a2
    refine ⟨fun h => (by cases h), fun h => absurd ⟨?_, ?_⟩ h⟩ <;> omega
  · have a1 := np.1 e1; have a2 := nq.1 e2
    refine ⟨fun _ h => ?_, fun _ => rfl⟩
    omega
end
end Rw

namespace Rw
open PySem PySem.Spec PyProof.Rows L2
theorem e12 : (10 : Int) ^ Int.toNat 12 = 1000000000000 := by decide
theorem con_of {n : Int} {ps : List Pi} (h : ∀ r : Int, 1 ≤ r → r < n → ∃ p ∈ ps, p.y = r ∧ 0 ≤ p.x ∧ p.x < r) : Con n.toNat (edges ps) := con_up h
theorem sum_ins (f : Pi → Nat) (ps : List Pi) (q : Pi) (k : Nat) : ((ps.take k ++ [q] ++ ps.drop k).map f).sum = (ps.map f).sum + f q := by
  have e : (ps.map f).sum = ((ps.take k).map f).sum + ((ps.drop k).map f).sum := by rw [← List.sum_append, ← List.map_append, List.take_append_drop]
  rw [List.map_append, List.map_append, List.sum_append, List.sum_append, e]
  show _ + (f q + 0) + _ = _
  omega
theorem ins_mem {ps : List Pi} {q z : Pi} {k : Nat} : z ∈ ps.take k ++ [q] ++ ps.drop k ↔ z = q ∨ z ∈ ps := by
  rw [(ins_perm ps k q).mem_iff, List.mem_cons]
end Rw

namespace Rw
open PySem PySem.Spec PyProof.Rows L2
/-! ### how far rooms lie apart, in a table by pairs of rooms -/
theorem filter_lt {α : Type} {f g : α → Bool} : ∀ {l : List α}, (∀ a ∈ l, f a = true → g a = true) → ∀ {a : α}, a ∈ l → g a = true → f a = false → (l.filter f).length < (l.filter g).length
  | [], _, _, m, _, _ => (nomatch m)
  | x :: l, h, a, m, ga, fa => by
    have le : (l.filter f).length ≤ (l.filter g).length := by
      have hl : ∀ a ∈ l, f a = true → g a = true := fun a m => h a (List.mem_cons_of_mem _ m)
      clear m ga fa h
      induction l with
      | nil => exact Nat.le_refl _
      | cons y l ih =>
        have h1 := hl y List.mem_cons_self
        have h2 := ih fun a m => hl a (List.mem_cons_of_mem _ m)
        rw [List.filter_cons, List.filter_cons]
        cases e1 : f y <;> cases e2 : g y
        · simpa using h2
        · simp; omega
        · rw [h1 e1] at e2; cases e2
        · simp; omega
    rw [List.filter_cons, List.filter_cons]
    rcases List.mem_cons.mp m with rfl | m
    · rw [ga, fa]; simp; omega
    · have ih := filter_lt (fun a m => h a (List.mem_cons_of_mem _ m)) m ga fa
      have h1 := h x List.mem_cons_self
      cases e1 : f x <;> cases e2 : g x
      · simpa using ih
      · simp; omega
      · rw [h1 e1] at e2; cases e2
      · simp; omega
def rk (n : Int) (d : Int → Int → Int) (r s : Int) : Nat := ((List.range n.toNat).filter fun u : Nat => decide (d r (u : Int) < d r s)).length
theorem rk_le (n : Int) (d : Int → Int → Int) (r s : Int) : rk n d r s ≤ n.toNat := by
  unfold rk
  have := List.length_filter_le (fun u : Nat => decide (d r (u : Int) < d r s)) (List.range n.toNat)
  rw [List.length_range] at this
  exact this
theorem rk_lt {n : Int} {d : Int → Int → Int} {r u s : Int} (u0 : 0 ≤ u) (u1 : u < n) (h : d r u < d r s) : rk n d r u < rk n d r s := by
  unfold rk
  refine filter_lt (fun a _ z => decide_eq_true (by have := of_decide_eq_true z; omega)) (a := u.toNat) (List.mem_range.mpr (by omega)) (decide_eq_true ?_) (decide_eq_false ?_)
  · rw [show ((u.toNat : Nat) : Int) = u by omega]; exact h
  · rw [show ((u.toNat : Nat) : Int) = u by omega]; omega
def fdd (kvs : List (List Key × V)) (r s : Int) : Prop := valV kvs (keyOf [r, s]) ≠ none
structure Tab (n : Int) (ps : List Pi) (d : Int → Int → Int) (kvs : List (List Key × V)) : Prop where
  val : ∀ r s, 0 ≤ r → r < n → 0 ≤ s → s < n → fdd kvs r s → valV kvs (keyOf [r, s]) = some (.int (d r s))
  par : ∀ r s, 0 ≤ r → r < n → 0 ≤ s → s < n → fdd kvs r s → s ≠ r → ∃ u w, 0 ≤ u ∧ u < n ∧ fdd kvs r u ∧ RE ps s u w ∧ d r s = d r u + w
theorem Tab.new {n : Int} {ps : List Pi} {d : Int → Int → Int} {kvs : List (List Key × V)} (h : Tab n ps d kvs) (T : Tm n ps d) {r u s w : Int} (r0 : 0 ≤ r) (r1 : r < n) (u0 : 0 ≤ u) (u1 : u < n) (hu : fdd kvs r u) (hs : ¬ fdd kvs r s) (e : RE ps u s w) : d r s = d r u + w := by
  have S := T.rooms r0 r1
  rcases S.step u s w ⟨u0, u1⟩ e with z | z
  · exact z
  · have h1 := S.nn s (S.cl u s w ⟨u0, u1⟩ e)
    have h2 := S.wt u s w ⟨u0, u1⟩ e
    have ne : u ≠ r := fun q => by rw [q, T.zero] at z; omega
    obtain ⟨u', w', a0, a1, f', e', h'⟩ := h.par r u r0 r1 u0 u1 hu ne
    have q := S.uni u s w u' w' ⟨u0, u1⟩ e e' z h'
    rw [q] at hs
    exact absurd f' hs
theorem key2 {a b c e : Int} : keyOf [a, b] = keyOf [c, e] ↔ a = c ∧ b = e := ⟨fun z => by
  have := keyOf_inj z
  simp only [List.cons.injEq, and_true] at this
  exact this, fun z => by rw [z.1, z.2]⟩
theorem fdd_put {kvs : List (List Key × V)} {r s r' s' : Int} {v : V} : fdd (putK kvs (keyOf [r, s]) v) r' s' ↔ (r' = r ∧ s' = s) ∨ fdd kvs r' s' := by
  unfold fdd
  rw [valV_put]
  by_cases e : r' = r ∧ s' = s
  · rw [if_pos (key2.mpr e)]
    exact ⟨fun _ => .inl e, fun _ z => by cases z⟩
  · rw [if_neg (fun z => e (key2.mp z))]
    exact ⟨.inr, fun z => z.resolve_left e⟩
theorem Tab.put {n : Int} {ps : List Pi} {d : Int → Int → Int} {kvs : List (List Key × V)} (h : Tab n ps d kvs) {r s v : Int} (hv : v = d r s) (hp : s ≠ r → ∃ u w, 0 ≤ u ∧ u < n ∧ fdd kvs r u ∧ RE ps s u w ∧ d r s = d r u + w) : Tab n ps d (putK kvs (keyOf [r, s]) (.int v)) := by
  refine ⟨fun r' s' a0 a1 b0 b1 f => ?_, fun r' s' a0 a1 b0 b1 f ne => ?_⟩
  · rw [valV_put]
    by_cases e : r' = r ∧ s' = s
    · rw [if_pos (key2.mpr e), hv, e.1, e.2]
    · rw [if_neg (fun z => e (key2.mp z))]
      exact h.val r' s' a0 a1 b0 b1 ((fdd_put.mp f).resolve_left e)
  · rcases fdd_put.mp f with ⟨rfl, rfl⟩ | f
    · obtain ⟨u, w, x0, x1, x2, x3⟩ := hp ne
      exact ⟨u, w, x0, x1, fdd_put.mpr (.inr x2), x3⟩
    · obtain ⟨u, w, x0, x1, x2, x3⟩ := h.par r' s' a0 a1 b0 b1 f ne
      exact ⟨u, w, x0, x1, fdd_put.mpr (.inr x2), x3⟩
def Prc (n : Int) (d : Int → Int → Int) (kvs : List (List Key × V)) (t : Nat) (r : Int) (p : Pi) : Prop := (rk n d r p.x ≤ t → fdd kvs r p.y) ∧ (rk n d r p.y ≤ t → fdd kvs r p.x)
def Upto (n : Int) (d : Int → Int → Int) (kvs : List (List Key × V)) (t : Nat) : Prop := ∀ r s, 0 ≤ r → r < n → 0 ≤ s → s < n → rk n d r s ≤ t → fdd kvs r s
theorem Prc.mono {n : Int} {d : Int → Int → Int} {kvs k2 : List (List Key × V)} {t : Nat} {r : Int} {p : Pi} (h : Prc n d kvs t r p) (m : ∀ a b, fdd kvs a b → fdd k2 a b) : Prc n d k2 t r p := ⟨fun z => m _ _ (h.1 z), fun z => m _ _ (h.2 z)⟩
theorem Upto.first {n : Int} {ps : List Pi} {d : Int → Int → Int} {kvs : List (List Key × V)} (T : Tm n ps d) (h : ∀ r, 0 ≤ r → r < n → fdd kvs r r) : Upto n d kvs 0 := fun r s r0 r1 s0 s1 z => by
  by_cases e : s = r
  · rw [e]; exact h r r0 r1
  · obtain ⟨i, p, e', hp⟩ := T.par r s r0 r1 s0 s1 (Ne.symm e)
    have pm := T.ok p (List.mem_of_getElem? e')
    obtain ⟨u, u0, u1, hu⟩ : ∃ u, 0 ≤ u ∧ u < n ∧ d r u < d r s := by
      rcases hp with ⟨h1, h2⟩ | ⟨h1, h2⟩
      · exact ⟨p.y, pm.2.2.1, pm.2.2.2.1, by omega⟩
      · exact ⟨p.x, pm.1, pm.2.1, by omega⟩
    have := rk_lt u0 u1 hu
    omega
theorem Upto.next {n : Int} {ps : List Pi} {d : Int → Int → Int} {kvs : List (List Key × V)} {t : Nat} (T : Tm n ps d) (own : ∀ r, 0 ≤ r → r < n → fdd kvs r r) (h : ∀ r, 0 ≤ r → r < n → ∀ p ∈ ps, Prc n d kvs t r p) : Upto n d kvs (t + 1) := fun r s r0 r1 s0 s1 z => by
  by_cases e : s = r
  · rw [e]; exact own r r0 r1
  · obtain ⟨i, p, e', hp⟩ := T.par r s r0 r1 s0 s1 (Ne.symm e)
    have mp := List.mem_of_getElem? e'
    have pm := T.ok p mp
    have pc := h r r0 r1 p mp
    rcases hp with ⟨h1, h2⟩ | ⟨h1, h2⟩
    · have := rk_lt (n := n) (d := d) (r := r) (u := p.y) (s := s) pm.2.2.1 pm.2.2.2.1 (by omega)
      rw [← h1]; exact pc.2 (by omega)
    · have := rk_lt (n := n) (d := d) (r := r) (u := p.x) (s := s) pm.1 pm.2.1 (by omega)
      rw [← h1]; exact pc.1 (by omega)
/-! the table lies there whole -/
def Apt (H : Hp) (Fd : Addr) (n : Int) (d : Int → Int → Int) : Prop := ∃ kvs, H Fd = some (.dT kvs) ∧ ∀ r s, 0 ≤ r → r < n → 0 ≤ s → s < n → valV kvs (keyOf [r, s]) = some (.int (d r s))
end Rw

namespace Rw
open PySem PySem.Spec PyProof.Rows L2
section
variable {P : Program} {w : World} {K : PySem.W.Frag} {mg : Str → Option Value} {base : Heap}
abbrev sPAt : Stmt := topS 4
abbrev nPAt : List Str := ["plan", "pipe", "at", "one", "other", "length"]
theorem scPAt : FnScope nPAt ["plan", "pipe", "at"] (defScope sPAt) := ⟨rfl, rfl, rfl, by decide +kernel, rfl, by decide +kernel, by decide +kernel⟩
def spPAt (C : Addr) : Sp := fun vs H Q _ => ∃ (a : Addr) (n i t : Int) (ps : List Pi) (d : Int → Int → Int) (av : List Addr), vs = [.ref a, .int i, .int t] ∧ PlanAt C [] H a n ps d ∧ 0 ≤ i ∧ i < ps.length ∧ Tr av H ∧
  ∀ (H' : Hp) (v : V), Keep [] H H' → Tr av H' → Dt av H' v (tupI (nm ps i t)) → Q v H'
theorem ok_pAt {C : Addr} (h : Has K mg "place_at" sPAt) (X : PlanTxt K C) : Can P w K mg base "place_at" ["plan", "pipe", "at"] 1 (spPAt C) := by
  obtain ⟨f, fd, F, g⟩ := h
  refine ⟨f, fd, F.ok (k := 0) scPAt (fun vs H Q E h => ?_) (fun cdv A outer s H vs Q E hr h => ?_), g, F.kp, F.binds fun _ _ _ _ _ _ us hl => match us, hl with | [_, _, _], _ => rfl⟩
  · obtain ⟨a, n, i, t, ps, d, av, rfl, _⟩ := h
    rfl
  · obtain ⟨a, n, i, t, ps, d, av, rfl, pl, h0, h1, tr, k⟩ := h
    refine ⟨_, pss_cons (ps_asg (pe_slice sl_tup (pe_ix ix_tup (pe_fld (pv 0) rfl) (pv 1) (fun _ _ => rfl)) po_none (po_some pe_int)) (pg_tup (by rfl) (pgs_cons (pg_name (i := 3) scPAt.nd rfl (by first | exact Or.inl rfl | exact Or.inr rfl)) (pgs_cons (pg_name (i := 4) scPAt.nd rfl (by first | exact Or.inl rfl | exact Or.inr rfl)) (pgs_cons (pg_name (i := 5) scPAt.nd rfl (by first | exact Or.inl rfl | exact Or.inr rfl)) pgs_nil)))))
      (pss_cons (ps_if (pt_cmpR op_eq (pv 2) pe_int (nomark _)) (pss_one (ps_ret (pe_tup (pa_cons (pv 3) pa_nil)))) pss_nil)
      (pss_cons (ps_if (pt_cmpR op_eq (pv 2) (pv 5) (nomark _)) (pss_one (ps_ret (pe_tup (pa_cons (pv 4) pa_nil)))) pss_nil)
      (pss_one (ps_ret (pe_tup (pa_cons (pv 1) (pa_cons (pv 2) pa_nil))))))), ?_⟩
    obtain ⟨dx, hb, pp, dl, gl, tl, xp, ds, gs, ws, a1', a2, a3, a4, a5, a6, a7, _⟩ := pl
    obtain ⟨p, pa, T1, T2, mp, gp, ga, epa⟩ := pi_at a7 h0 h1
    have epr : p = pr ps i := by
      have z := (pr_mem h0 h1).2
      rw [z] at gp; exact (Option.some.inj gp).symm
    subst epr
    refine ⟨.ref a, rfl, a, C, dx, _, .ref pp, rfl, a2, X.cl, X.nP, pf_pipes .., .int i, rfl, pp, xp, i, .ref pa, rfl, rfl, SqT.of a6, ga, 3, rfl, pa, [.int (pr ps i).x, .int (pr ps i).y, .int (pr ps i).l, .ref T1, .ref T2], rfl, SqT.of epa, show ¬ (HT.sIx 5 0 none = 0 ∧ HT.sIx 5 5 (some 3) = 5) by decide +kernel, fun T3 nT3 => ?_⟩
    rw [show cutV [V.int (pr ps i).x, .int (pr ps i).y, .int (pr ps i).l, .ref T1, .ref T2] none (some 3) = [.int (pr ps i).x, .int (pr ps i).y, .int (pr ps i).l] from cut_to _ 3]
    refine ⟨T3, [.int (pr ps i).x, .int (pr ps i).y, .int (pr ps i).l], rfl, SqT.of upd_same, rfl, _, _, rfl, _, _, rfl, _, [], rfl, rfl, ?_⟩
    have k1 : Keep [] H (upd H T3 (.tup [.int (pr ps i).x, .int (pr ps i).y, .int (pr ps i).l])) := Keep.new nT3
    have tr1 : Tr av (upd H T3 (.tup [.int (pr ps i).x, .int (pr ps i).y, .int (pr ps i).l])) := tr.upd
    generalize upd H T3 (.tup [.int (pr ps i).x, .int (pr ps i).y, .int (pr ps i).l]) = H1 at k1 tr1 ⊢
    refine ⟨.int t, rfl, rfl, _, rfl, ite2 (fun e => ?_) (fun e => ?_)⟩
    · have e0 : t = 0 := V.int.inj (of_decide_eq_true e)
      refine ⟨.int (pr ps i).x, rfl, show 1 ≤ sizeLine by decide, fun z nz => ?_⟩
      refine k _ _ (k1.trans (Keep.new nz)) tr1.upd ?_
      rw [e0, nm_0]
      exact .tup (tr1.not nz) upd_same (.cons (.int _) .nil)
    · have e0 : t ≠ 0 := fun z => e (decide_eq_true (by rw [z]))
      refine ⟨.int t, rfl, .int (pr ps i).l, rfl, rfl, _, rfl, ite2 (fun e1 => ?_) (fun e1 => ?_)⟩
      · have e2 : t = (pr ps i).l := V.int.inj (of_decide_eq_true e1)
        have en : nm ps i t = [(pr ps i).y] := by
          have l0 : (pr ps i).l ≠ 0 := by rw [← e2]; exact e0
          rw [e2, nm_l l0]
        refine ⟨.int (pr ps i).y, rfl, show 1 ≤ sizeLine by decide, fun z nz => ?_⟩
        refine k _ _ (k1.trans (Keep.new nz)) tr1.upd ?_
        rw [en]
        exact .tup (tr1.not nz) upd_same (.cons (.int _) .nil)
      · have e2 : t ≠ (pr ps i).l := fun z => e1 (decide_eq_true (by rw [z]))
        refine ⟨.int i, rfl, .int t, rfl, show 2 ≤ sizeLine by decide, fun z nz => ?_⟩
        refine k _ _ (k1.trans (Keep.new nz)) tr1.upd ?_
        rw [nm_mid e0 e2]
        exact .tup (tr1.not nz) upd_same (.cons (.int _) (.cons (.int _) .nil))
end
end Rw

namespace Rw
/-! ### rows of places, piece by piece: a piece is [pipe, begin, stop] -/
def plen (c : List Int) : Int := ab (c.getD 1 0) (c.getD 2 0)
def pat (c : List Int) (k : Int) : Int := if c.getD 1 0 < c.getD 2 0 then c.getD 1 0 + k else c.getD 1 0 - k
def ptot : List (List Int) → Int
  | [] => 0
  | c :: r => plen c + ptot r
def PcOk (ps : List Pi) (c : List Int) : Prop := ∃ i b e : Int, c = [i, b, e] ∧ 0 ≤ i ∧ i < ps.length ∧ 0 ≤ b ∧ b ≤ (pr ps i).l ∧ 0 ≤ e ∧ e ≤ (pr ps i).l
def beg (ps : List Pi) (c : List Int) : Pl := nm ps (c.getD 0 0) (c.getD 1 0)
def fin' (ps : List Pi) (c : List Int) : Pl := nm ps (c.getD 0 0) (c.getD 2 0)
inductive Chn (ps : List Pi) : Pl → List (List Int) → Pl → Prop
  | nil (p : Pl) : Chn ps p [] p
  | cons {c : List Int} {r : List (List Int)} {q : Pl} : PcOk ps c → Chn ps (fin' ps c) r q → Chn ps (beg ps c) (c :: r) q
theorem Chn.snoc {ps : List Pi} {p q : Pl} {r : List (List Int)} (h : Chn ps p r q) : ∀ {c : List Int}, PcOk ps c → q = beg ps c → Chn ps p (r ++ [c]) (fin' ps c) := by
  induction h with
  | nil p =>
    intro c ok e
    subst e
    exact .cons ok (.nil _)
  | cons ok' _ ih =>
    intro c ok e
    exact .cons ok' (ih ok e)
theorem ptot_snoc (r : List (List Int)) (c : List Int) : ptot (r ++ [c]) = ptot r + plen c := by
  induction r with
  | nil => show plen c + 0 = 0 + plen c; omega
  | cons a r ih => show plen a + ptot (r ++ [c]) = plen a + ptot r + plen c; rw [ih]; omega
def along (ps : List Pi) : List (List Int) → Int → Pl
  | [], _ => []
  | [c], k => nm ps (c.getD 0 0) (pat c k)
  | c :: r, k => if k ≤ plen c then nm ps (c.getD 0 0) (pat c k) else along ps r (k - plen c)
section
variable {n : Int} {ps : List Pi} {d : Int → Int → Int} (T : Tm n ps d)
include T
theorem nm_dist {i a b : Int} (h0 : 0 ≤ i) (h1 : i < ps.length) (a0 : 0 ≤ a) (a1 : a ≤ (pr ps i).l) (b0 : 0 ≤ b) (b1 : b ≤ (pr ps i).l) : Dp ps d (nm ps i a) (nm ps i b) = ab a b := by
  have oa := ok_nm T h0 h1 a0 a1
  obtain ⟨f0, f1, _, f⟩ := foot_at T oa h0 h1
  have e1 := f a a0 a1
  have e2 := f b b0 b1
  rw [Dp_self T oa] at e1
  have nn := Dp_nn T oa (ok_nm T h0 h1 f0 f1)
  unfold ab at *
  split at e1 <;> split at e2 <;> split <;> omega
theorem chn_ok {p q : Pl} {r : List (List Int)} (h : Chn ps p r q) (hq : okP n ps q) : okP n ps p := by
  cases h with
  | nil => exact hq
  | cons ok _ =>
    obtain ⟨i, b, e, rfl, h0, h1, b0, b1, e0, e1⟩ := ok
    exact ok_nm T h0 h1 b0 b1
theorem plen_nn {c : List Int} : 0 ≤ plen c := by unfold plen ab; split <;> omega
theorem chn_le {p q : Pl} {r : List (List Int)} (h : Chn ps p r q) (hq : okP n ps q) : Dp ps d p q ≤ ptot r := by
  induction h with
  | nil p => rw [Dp_self T hq]; exact Int.le_refl 0
  | @cons c r q ok h ih =>
    have okr := chn_ok T h hq
    have i1 := ih hq
    obtain ⟨i, b, e, rfl, h0, h1, b0, b1, e0, e1⟩ := ok
    have okp := ok_nm T h0 h1 b0 b1
    have t := Dp_le T okp okr hq
    have ed : Dp ps d (nm ps i b) (nm ps i e) = ab b e := nm_dist T h0 h1 b0 b1 e0 e1
    show Dp ps d (nm ps i b) q ≤ ab b e + ptot r
    have t' : Dp ps d (nm ps i b) q ≤ Dp ps d (nm ps i b) (nm ps i e) + Dp ps d (nm ps i e) q := t
    have i1' : Dp ps d (nm ps i e) q ≤ ptot r := i1
    omega
/-! within a piece -/
theorem pat_in {i b e k : Int} (h0 : 0 ≤ i) (h1 : i < ps.length) (b0 : 0 ≤ b) (b1 : b ≤ (pr ps i).l) (e0 : 0 ≤ e) (e1 : e ≤ (pr ps i).l) (k0 : 0 ≤ k) (k1 : k ≤ ab b e) :
    okP n ps (nm ps i (pat [i, b, e] k)) ∧ Dp ps d (nm ps i b) (nm ps i (pat [i, b, e] k)) = k ∧ Dp ps d (nm ps i (pat [i, b, e] k)) (nm ps i e) = ab b e - k := by
  have ep : pat [i, b, e] k = if b < e then b + k else b - k := rfl
  have r0 : 0 ≤ pat [i, b, e] k := by rw [ep]; unfold ab at k1; split at k1 <;> split <;> omega
  have r1 : pat [i, b, e] k ≤ (pr ps i).l := by rw [ep]; unfold ab at k1; split at k1 <;> split <;> omega
  refine ⟨ok_nm T h0 h1 r0 r1, ?_, ?_⟩
  · rw [nm_dist T h0 h1 b0 b1 r0 r1, ep]
    unfold ab at *
    split at k1 <;> split <;> split <;> omega
  · rw [nm_dist T h0 h1 r0 r1 e0 e1, ep]
    unfold ab at *
    split at k1 <;> split <;> split <;> omega
theorem along_at {p q : Pl} {r : List (List Int)} (h : Chn ps p r q) : ∀ (hq : okP n ps q) (ht : ptot r = Dp ps d p q) {k : Int} (k0 : 1 ≤ k) (k1 : k ≤ ptot r),
    okP n ps (along ps r k) ∧ Dp ps d p (along ps r k) = k ∧ Dp ps d (along ps r k) q = ptot r - k := by
  induction h with
  | nil p =>
    intro hq ht k k0 k1
    have : ptot [] = 0 := rfl
    omega
  | @cons c r q ok h ih =>
    intro hq ht k k0 k1
    have okr := chn_ok T h hq
    have le := chn_le T h hq
    obtain ⟨i, b, e, rfl, h0, h1, b0, b1, e0, e1⟩ := ok
    have okp : okP n ps (nm ps i b) := ok_nm T h0 h1 b0 b1
    have ed : Dp ps d (nm ps i b) (nm ps i e) = ab b e := nm_dist T h0 h1 b0 b1 e0 e1
    have okr' : okP n ps (nm ps i e) := okr
    have le' : Dp ps d (nm ps i e) q ≤ ptot r := le
    have t := Dp_le T okp okr' hq
    have pt : ptot ([i, b, e] :: r) = ab b e + ptot r := rfl
    have ht' : ab b e + ptot r = Dp ps d (nm ps i b) q := ht
    have er : ptot r = Dp ps d (nm ps i e) q := by omega
    have near : k ≤ ab b e → okP n ps (nm ps i (pat [i, b, e] k)) ∧ Dp ps d (nm ps i b) (nm ps i (pat [i, b, e] k)) = k ∧ Dp ps d (nm ps i (pat [i, b, e] k)) q = ptot ([i, b, e] :: r) - k := fun c => by
      obtain ⟨z1, z2, z3⟩ := pat_in T h0 h1 b0 b1 e0 e1 (k := k) (by omega) c
      refine ⟨z1, z2, ?_⟩
      have t1 := Dp_le T z1 okr' hq
      have t2 := Dp_le T okp z1 hq
      omega
    cases r with
    | nil =>
      have pn : ptot [] = 0 := rfl
      exact near (by omega)
    | cons c2 r2 =>
      have ea : along ps ([i, b, e] :: c2 :: r2) k = if k ≤ plen [i, b, e] then nm ps i (pat [i, b, e] k) else along ps (c2 :: r2) (k - plen [i, b, e]) := rfl
      have pl : plen [i, b, e] = ab b e := rfl
      rw [ea, pl]
      by_cases c : k ≤ ab b e
      · rw [if_pos c]; exact near c
      · rw [if_neg c]
        obtain ⟨z1, z2, z3⟩ := ih hq er (k := k - ab b e) (by omega) (by omega)
        have z2' : Dp ps d (nm ps i e) (along ps (c2 :: r2) (k - ab b e)) = k - ab b e := z2
        refine ⟨z1, ?_, by omega⟩
        have t1 := Dp_le T okp okr' z1
        have t2 := Dp_le T okp z1 hq
        show Dp ps d (nm ps i b) _ = k
        have ht2 : Dp ps d (nm ps i b) q = ab b e + ptot (c2 :: r2) := ht'.symm
        omega
end
end Rw

namespace Rw
open PySem PySem.Spec PyProof.Rows L2
section
variable {P : Program} {w : World} {K : PySem.W.Frag} {mg : Str → Option Value} {base : Heap}
abbrev sRAt : Stmt := topS 9
abbrev nRAt : List Str := ["plan", "pipe", "room"]
theorem scRAt : FnScope nRAt ["plan", "pipe", "room"] (defScope sRAt) := ⟨rfl, rfl, rfl, by decide +kernel, rfl, by decide +kernel, by decide +kernel⟩
def roomAt (ps : List Pi) (i r : Int) : Int := if (pr ps i).x = r then 0 else (pr ps i).l
def spRAt (C : Addr) : Sp := fun vs H Q _ => ∃ (a : Addr) (n i r : Int) (ps : List Pi) (d : Int → Int → Int), vs = [.ref a, .int i, .int r] ∧ PlanAt C [] H a n ps d ∧ 0 ≤ i ∧ i < ps.length ∧ Q (.int (roomAt ps i r)) H
theorem ok_rAt {C : Addr} (h : Has K mg "room_at" sRAt) (X : PlanTxt K C) : Can P w K mg base "room_at" ["plan", "pipe", "room"] 1 (spRAt C) := by
  obtain ⟨f, fd, F, g⟩ := h
  refine ⟨f, fd, F.ok (k := 0) scRAt (fun vs H Q E h => ?_) (fun cdv A outer s H vs Q E hr h => ?_), g, F.kp, F.binds fun _ _ _ _ _ _ us hl => match us, hl with | [_, _, _], _ => rfl⟩
  · obtain ⟨a, n, i, r, ps, d, rfl, _⟩ := h
    rfl
  · obtain ⟨a, n, i, r, ps, d, rfl, pl, h0, h1, k⟩ := h
    refine ⟨_, pss_one (ps_ret (pe_ifExp (pt_cmpR op_eq (pe_ix ix_tup (pe_ix ix_tup (pe_fld (pv 0) rfl) (pv 1) (fun _ _ => rfl)) pe_int (fun _ _ => rfl)) (pv 2) (nomark _)) pe_int (pe_ix ix_tup (pe_ix ix_tup (pe_fld (pv 0) rfl) (pv 1) (fun _ _ => rfl)) pe_int (fun _ _ => rfl)))), ?_⟩
    obtain ⟨dx, hb, pp, dl, gl, tl, xp, ds, gs, ws, a1', a2, a3, a4, a5, a6, a7, _⟩ := pl
    obtain ⟨p, pa, T1, T2, mp, gp, ga, epa⟩ := pi_at a7 h0 h1
    have epr : p = pr ps i := by
      have z := (pr_mem h0 h1).2
      rw [z] at gp; exact (Option.some.inj gp).symm
    subst epr
    refine ⟨.ref a, rfl, a, C, dx, _, .ref pp, rfl, a2, X.cl, X.nP, pf_pipes .., .int i, rfl, pp, xp, i, .ref pa, rfl, rfl, SqT.of a6, ga, pa, _, 0, .int (pr ps i).x, rfl, rfl, SqT.of epa, atI_nat (j := 0) rfl, .int r, rfl, rfl, _, rfl, ite2 (fun e => ?_) (fun e => ?_)⟩
    · have e0 : (pr ps i).x = r := V.int.inj (of_decide_eq_true e)
      unfold roomAt at k
      rw [if_pos e0] at k
      exact k
    · have e0 : ¬ (pr ps i).x = r := fun z => e (decide_eq_true (by rw [z]))
      unfold roomAt at k
      rw [if_neg e0] at k
      exact ⟨.ref a, rfl, a, C, dx, _, .ref pp, rfl, a2, X.cl, X.nP, pf_pipes .., .int i, rfl, pp, xp, i, .ref pa, rfl, rfl, SqT.of a6, ga, pa, _, 2, .int (pr ps i).l, rfl, rfl, SqT.of epa, atI_nat (j := 2) rfl, k⟩
abbrev sLen : Stmt := topS 11
abbrev nLen : List Str := ["piece"]
theorem scLen : FnScope nLen ["piece"] (defScope sLen) := ⟨rfl, rfl, rfl, by decide +kernel, rfl, by decide +kernel, by decide +kernel⟩
def spLen : Sp := fun vs H Q _ => ∃ (t : Addr) (i b e : Int), vs = [.ref t] ∧ H t = some (.tup [.int i, .int b, .int e]) ∧ Q (.int (plen [i, b, e])) H
theorem ok_len (h : Has K mg "length_of" sLen) (B : Blt mg) : Can P w K mg base "length_of" ["piece"] 1 spLen := by
  obtain ⟨f, fd, F, g⟩ := h
  refine ⟨f, fd, F.ok (k := 0) scLen (fun vs H Q E h => ?_) (fun cdv A outer s H vs Q E hr h => ?_), g, F.kp, F.binds fun _ _ _ _ _ _ us hl => match us, hl with | [_], _ => rfl⟩
  · obtain ⟨t, i, b, e, rfl, _⟩ := h
    rfl
  · obtain ⟨t, i, b, e, rfl, et, k⟩ := h
    refine ⟨_, pss_one (ps_ret (pe_callB call_abs (by rfl) B.abs_ boot_abs (pa_cons (pe_op op_sub (pe_ix ix_tup (pv 0) pe_int (fun _ _ => rfl)) (pe_ix ix_tup (pv 0) pe_int (fun _ _ => rfl))) pa_nil))), ?_⟩
    refine ⟨.ref t, rfl, t, _, 2, .int e, rfl, rfl, SqT.of et, atI_nat (j := 2) rfl, .ref t, rfl, t, _, 1, .int b, rfl, rfl, SqT.of et, atI_nat (j := 1) rfl, e, b, rfl, rfl, e - b, rfl, ?_⟩
    have z : (if e - b < 0 then -(e - b) else e - b) = plen [i, b, e] := by
      show _ = ab b e
      unfold ab; split <;> split <;> omega
    rw [z]; exact k
abbrev sAl : Stmt := topS 12
abbrev nAl : List Str := ["piece", "steps", "pipe", "begin", "stop"]
theorem scAl : FnScope nAl ["piece", "steps"] (defScope sAl) := ⟨rfl, rfl, rfl, by decide +kernel, rfl, by decide +kernel, by decide +kernel⟩
def spAl : Sp := fun vs H Q _ => ∃ (t : Addr) (i b e k : Int), vs = [.ref t, .int k] ∧ H t = some (.tup [.int i, .int b, .int e]) ∧ Q (.int (pat [i, b, e] k)) H
theorem ok_al (h : Has K mg "at_along" sAl) : Can P w K mg base "at_along" ["piece", "steps"] 1 spAl := by
  obtain ⟨f, fd, F, g⟩ := h
  refine ⟨f, fd, F.ok (k := 0) scAl (fun vs H Q E h => ?_) (fun cdv A outer s H vs Q E hr h => ?_), g, F.kp, F.binds fun _ _ _ _ _ _ us hl => match us, hl with | [_, _], _ => rfl⟩
  · obtain ⟨t, i, b, e, k, rfl, _⟩ := h
    rfl
  · obtain ⟨t, i, b, e, k, rfl, et, q⟩ := h
    refine ⟨_, pss_cons (ps_asg (pv 0) (pg_tup (by rfl) (pgs_cons (pg_name (i := 2) scAl.nd rfl (by first | exact Or.inl rfl | exact Or.inr rfl)) (pgs_cons (pg_name (i := 3) scAl.nd rfl (by first | exact Or.inl rfl | exact Or.inr rfl)) (pgs_cons (pg_name (i := 4) scAl.nd rfl (by first | exact Or.inl rfl | exact Or.inr rfl)) pgs_nil)))))
      (pss_one (ps_ret (pe_ifExp (pt_cmpR op_lt (pv 3) (pv 4) (nomark _)) (pe_op op_add (pv 3) (pv 1)) (pe_op op_sub (pv 3) (pv 1))))), ?_⟩
    refine ⟨.ref t, rfl, t, _, rfl, SqT.of et, rfl, _, _, rfl, _, _, rfl, _, [], rfl, rfl, ?_⟩
    have ep : pat [i, b, e] k = if b < e then b + k else b - k := rfl
    rw [ep] at q
    refine ⟨.int b, rfl, .int e, rfl, b, e, rfl, rfl, _, rfl, ite2 (fun c => ?_) (fun c => ?_)⟩
    · rw [if_pos (of_decide_eq_true c)] at q
      exact ⟨.int b, rfl, .int k, rfl, b, k, rfl, rfl, q⟩
    · rw [if_neg (fun z => c (decide_eq_true z))] at q
      exact ⟨.int b, rfl, .int k, rfl, b, k, rfl, rfl, q⟩
abbrev sPAl : Stmt := topS 13
abbrev nPAl : List Str := ["plan", "pieces", "steps", "left", "piece"]
theorem scPAl : FnScope nPAl ["plan", "pieces", "steps"] (defScope sPAl) := ⟨rfl, rfl, rfl, by decide +kernel, rfl, by decide +kernel, by decide +kernel⟩
theorem cut_last (xs : List V) (x : V) : cutV (xs ++ [x]) none (some (-1)) = xs := by
  unfold cutV
  have e1 : HT.sIx (xs ++ [x]).length 0 none = 0 := HT.sIx_none _ _
  have e2 : HT.sIx (xs ++ [x]).length (xs ++ [x]).length (some (-1)) = xs.length := by
    rw [List.length_append, List.length_singleton]
    unfold HT.sIx
    simp
    omega
  rw [e1, e2, List.drop_zero, Nat.sub_zero, List.take_left]
def spPAl (C : Addr) : Sp := fun vs H Q _ => ∃ (a l : Addr) (n k : Int) (ps : List Pi) (d : Int → Int → Int) (us : List V) (pcs : List (List Int)) (av : List Addr), vs = [.ref a, .ref l, .int k] ∧ PlanAt C [] H a n ps d ∧ H l = some (.lst us) ∧ Dts [] H us (pcs.map tupI) ∧ pcs ≠ [] ∧ pcs.length ≤ 1000 ∧ (∀ c ∈ pcs, PcOk ps c) ∧ Tr av H ∧
  ∀ (H' : Hp) (v : V), Keep [] H H' → Tr av H' → Dt av H' v (tupI (along ps pcs k)) → Q v H'
theorem along_cons {ps : List Pi} {c : List Int} {r : List (List Int)} (h : r ≠ []) (k : Int) : along ps (c :: r) k = if k ≤ plen c then nm ps (c.getD 0 0) (pat c k) else along ps r (k - plen c) := by
  cases r with
  | nil => exact absurd rfl h
  | cons _ _ => rfl
theorem ok_pAl {C : Addr} (h : Has K mg "place_along" sPAl) (CL : Can P w K mg base "length_of" ["piece"] 1 spLen) (CT : Can P w K mg base "at_along" ["piece", "steps"] 1 spAl) (CA : Can P w K mg base "place_at" ["plan", "pipe", "at"] 1 (spPAt C)) : Can P w K mg base "place_along" ["plan", "pieces", "steps"] 2 (spPAl C) := by
  obtain ⟨f, fd, F, g⟩ := h
  refine ⟨f, fd, F.ok (k := 1) scPAl (fun vs H Q E h => ?_) (fun cdv A outer s H vs Q E hr h => ?_), g, F.kp, F.binds fun _ _ _ _ _ _ us hl => match us, hl with | [_, _, _], _ => rfl⟩
  · obtain ⟨a, l, n, k, ps, d, us, pcs, av, rfl, _⟩ := h
    rfl
  · obtain ⟨a, l, n, k, ps, d, us, pcs, av, rfl, pl, el, du, hne, hlen, hok, tr, q⟩ := h
    refine ⟨_, pss_cons (ps_set (i := 3) scPAl.nd rfl (by first | exact Or.inl rfl | exact Or.inr rfl) (pv 2))
      (pss_cons (ps_for PassesOwn.never rfl (pi_list (pe_slice sl_list (pv 1) po_none (po_some (pe_un un_neg pe_int)))) (pg_name (i := 4) scPAl.nd rfl (by first | exact Or.inl rfl | exact Or.inr rfl))
      (pss_cons (ps_if (pt_cmpR op_le (pv 3) (pe_can CL (hr.mono (by decide)) (by rfl) (pa_cons (pv 4) pa_nil)) (nomark _)) (pss_one (ps_ret (pe_can CA (hr.mono (by decide)) (by rfl) (pa_cons (pv 0) (pa_cons (pe_ix ix_tup (pv 4) pe_int (fun _ _ => rfl)) (pa_cons (pe_can CT (hr.mono (by decide)) (by rfl) (pa_cons (pv 4) (pa_cons (pv 3) pa_nil))) pa_nil)))))) pss_nil)
      (pss_one (ps_aug (i := 3) scPAl.nd rfl (by first | exact Or.inl rfl | exact Or.inr rfl) (pe_can CL (hr.mono (by decide)) (by rfl) (pa_cons (pv 4) pa_nil)) ip_sub))))
      (pss_one (ps_ret (pe_can CA (hr.mono (by decide)) (by rfl) (pa_cons (pv 0) (pa_cons (pe_ix ix_tup (pe_ix ix_list (pv 1) (pe_un un_neg pe_int) (fun _ _ => rfl)) pe_int (fun _ _ => rfl)) (pa_cons (pe_can CT (hr.mono (by decide)) (by rfl) (pa_cons (pe_ix ix_list (pv 1) (pe_un un_neg pe_int) (fun _ _ => rfl)) (pa_cons (pv 3) pa_nil))) pa_nil))))))), ?_⟩
    obtain ⟨pre, lastc, epc⟩ : ∃ pre lastc, pcs = pre ++ [lastc] := ⟨pcs.dropLast, pcs.getLast hne, (List.dropLast_concat_getLast hne).symm⟩
    have lu : us.length = pcs.length := by rw [du.len, List.length_map]
    obtain ⟨ups, ul, eus⟩ : ∃ ups ul, us = ups ++ [ul] := by
      have z : us ≠ [] := fun z => by rw [z, epc] at lu; simp at lu
      exact ⟨us.dropLast, us.getLast z, (List.dropLast_concat_getLast z).symm⟩
    subst epc eus
    have lp : ups.length = pre.length := by rw [List.length_append, List.length_append] at lu; simpa using lu
    refine ⟨.int k, rfl, ?_⟩
    refine ⟨.ref l, rfl, 1, rfl, -1, rfl, l, _, rfl, SqL.of el, fun S nS => ?_⟩
    rw [cut_last]
    have kS : Keep [] H (upd H S (.lst ups)) := Keep.new nS
    have eS : (upd H S (.lst ups)) S = some (.lst ups) := upd_same
    have trS : Tr av (upd H S (.lst ups)) := tr.upd
    generalize upd H S (.lst ups) = G0 at kS eS trS ⊢
    have piece : ∀ (G : Hp) (j : Nat) (x : V), Keep [] H G → (ups ++ [ul])[j]? = some x → ∃ (i b e : Int) (t : Addr), (pre ++ [lastc])[j]? = some [i, b, e] ∧ x = .ref t ∧ G t = some (.tup [.int i, .int b, .int e]) ∧ 0 ≤ i ∧ i < ps.length := fun G j x kG hx => by
      obtain ⟨dd, gd, dx⟩ := (du.keep kG).getv j hx
      rw [List.getElem?_map] at gd
      obtain ⟨c, gc, rfl⟩ := Option.map_eq_some_iff.mp gd
      obtain ⟨i, b, e, rfl, h0, h1, _⟩ := hok c (List.mem_of_getElem? gc)
      obtain ⟨t, rfl, _, et⟩ := tupI_at dx
      exact ⟨i, b, e, t, gc, rfl, et, h0, h1⟩
    refine ⟨S, rfl, ⟨_, SqL.of eS⟩, for_list (K := K) (a := S) (xs := ups) (fun j σ J => ∃ (left : Int) (s4 : Option V), σ = [some (.ref a), some (.ref l), some (.int k), some (.int left), s4] ∧ Keep [] G0 J ∧ Tr av J ∧ along ps (pre ++ [lastc]) k = along ps ((pre ++ [lastc]).drop j) left) ⟨k, _, rfl, Keep.refl _ _, trS, by rw [List.drop_zero]⟩ (fun j σ J _ p => ?_) (fun j x σ J hx p => ?_) (fun σ J p => ?_)⟩
    · obtain ⟨_, _, _, kJ, _⟩ := p
      exact SqL.of (kJ S _ eS List.not_mem_nil)
    · obtain ⟨left, s4, rfl, kJ, tJ, ea⟩ := p
      have jl : j < ups.length := (List.getElem?_eq_some_iff.mp hx).1
      have hx' : (ups ++ [ul])[j]? = some x := by rw [List.getElem?_append_left jl]; exact hx
      obtain ⟨i, b, e, t, gc, rfl, et, h0, h1⟩ := piece J j x (kS.trans kJ) hx'
      have dj : (pre ++ [lastc]).drop j = [i, b, e] :: (pre ++ [lastc]).drop (j + 1) := by
        obtain ⟨hj, ej⟩ := List.getElem?_eq_some_iff.mp gc
        rw [List.drop_eq_getElem_cons hj, ej]
      have rest : (pre ++ [lastc]).drop (j + 1) ≠ [] := fun z => by
        have z2 := congrArg List.length z
        rw [List.length_drop, List.length_append, List.length_singleton] at z2
        simp at z2; omega
      rw [dj, along_cons rest] at ea
      refine ⟨.int left, rfl, .ref t, rfl, t, i, b, e, rfl, et, left, plen [i, b, e], rfl, rfl, _, rfl, ite2 (fun c => ?_) (fun c => ?_)⟩
      · rw [if_pos (of_decide_eq_true c)] at ea
        refine ⟨.ref a, rfl, .ref t, rfl, t, _, 0, .int i, rfl, rfl, SqT.of et, atI_nat (j := 0) rfl, .ref t, rfl, .int left, rfl, t, i, b, e, left, rfl, et, a, n, i, pat [i, b, e] left, ps, d, av, rfl, pl.keep (kS.trans kJ), h0, h1, tJ, fun J2 v k2 t2 dv => ?_⟩
        refine q J2 v ((kS.trans kJ).trans k2) t2 ?_
        rw [ea]; exact dv
      · rw [if_neg (fun z => c (decide_eq_true z))] at ea
        refine ⟨.int left, rfl, .ref t, rfl, t, i, b, e, rfl, et, left, plen [i, b, e], rfl, rfl, ?_⟩
        exact ⟨left - plen [i, b, e], _, rfl, kJ, tJ, ea⟩
    · obtain ⟨left, s4, rfl, kJ, tJ, ea⟩ := p
      have hx' : (ups ++ [ul])[ups.length]? = some ul := by rw [List.getElem?_append_right (Nat.le_refl _), Nat.sub_self]; rfl
      obtain ⟨i, b, e, t, gc, rfl, et, h0, h1⟩ := piece J ups.length ul (kS.trans kJ) hx'
      have ec : lastc = [i, b, e] := by
        rw [lp, List.getElem?_append_right (Nat.le_refl _), Nat.sub_self] at gc
        exact Option.some.inj gc
      have dj : (pre ++ [lastc]).drop ups.length = [[i, b, e]] := by
        rw [lp, List.drop_left, ec]
      rw [dj] at ea
      have ea' : along ps (pre ++ [lastc]) k = nm ps i (pat [i, b, e] left) := ea
      have elJ := (kS.trans kJ) l _ el List.not_mem_nil
      refine ⟨.ref a, rfl, .ref l, rfl, 1, rfl, l, _, -1, .ref t, rfl, rfl, SqL.of elJ, atI_last ups _, t, _, 0, .int i, rfl, rfl, SqT.of et, atI_nat (j := 0) rfl, .ref l, rfl, 1, rfl, l, _, -1, .ref t, rfl, rfl, SqL.of elJ, atI_last ups _, .int left, rfl, t, i, b, e, left, rfl, et, a, n, i, pat [i, b, e] left, ps, d, av, rfl, pl.keep (kS.trans kJ), h0, h1, tJ, fun J2 v k2 t2 dv => ?_⟩
      refine q J2 v ((kS.trans kJ).trans k2) t2 ?_
      rw [ea']; exact dv
end
end Rw

namespace Rw
open PySem PySem.Spec PyProof.Rows L2
section
variable {n : Int} {ps : List Pi} {d : Int → Int → Int} (T : Tm n ps d)
include T
theorem roomAt_x (i : Int) : roomAt ps i (pr ps i).x = 0 := if_pos rfl
theorem roomAt_y {i : Int} (h0 : 0 ≤ i) (h1 : i < ps.length) : roomAt ps i (pr ps i).y = (pr ps i).l := if_neg (Tm.own T h0 h1).2.2
theorem room_pc {i a r b : Int} (h0 : 0 ≤ i) (h1 : i < ps.length) (a0 : 1 ≤ a) (a1 : a ≤ (pr ps i).l - 1) (m : [r, b] ∈ exitsL ps [i, a]) :
    0 ≤ roomAt ps i r ∧ roomAt ps i r ≤ (pr ps i).l ∧ nm ps i (roomAt ps i r) = [r] ∧ ab a (roomAt ps i r) = b ∧ ab (roomAt ps i r) a = b ∧ nm ps i a = [i, a] := by
  have m' : [r, b] ∈ [[(pr ps i).x, a], [(pr ps i).y, (pr ps i).l - a]] := m
  have nn : nm ps i a = [i, a] := nm_mid (by omega) (by omega)
  rcases List.mem_cons.mp m' with e | m'
  · obtain ⟨e1, e2⟩ := List.cons.inj e
    have e3 := (List.cons.inj e2).1
    rw [e1, roomAt_x T i]
    refine ⟨by omega, by omega, nm_0 ps i, ?_, ?_, nn⟩
    · unfold ab; split <;> omega
    · unfold ab; split <;> omega
  · obtain ⟨e1, e2⟩ := List.cons.inj (List.mem_singleton.mp m')
    have e3 := (List.cons.inj e2).1
    rw [e1, roomAt_y T h0 h1]
    refine ⟨by omega, by omega, nm_l (by omega), ?_, ?_, nn⟩
    · unfold ab; split <;> omega
    · unfold ab; split <;> omega
end
theorem chn_pcs {ps : List Pi} {p q : Pl} {r : List (List Int)} (h : Chn ps p r q) : ∀ c ∈ r, PcOk ps c := by
  induction h with
  | nil => exact fun _ z => nomatch z
  | cons ok _ ih =>
    intro c m
    rcases List.mem_cons.mp m with rfl | m
    · exact ok
    · exact ih c m
section
variable {P : Program} {w : World} {K : PySem.W.Frag} {mg : Str → Option Value} {base : Heap}
abbrev sRow : Stmt := topS 10
abbrev nRow : List Str := ["plan", "one", "other", "steps", "here", "last", "pieces", "pipe", "at", "beyond", "far"]
theorem scRow : FnScope nRow ["plan", "one", "other"] (defScope sRow) := ⟨rfl, rfl, rfl, by decide +kernel, rfl, by decide +kernel, by decide +kernel⟩
def spRow (C : Addr) : Sp := fun vs H Q _ => ∃ (a : Addr) (o1 o2 : V) (n : Int) (ps : List Pi) (d : Int → Int → Int) (p q : Pl), vs = [.ref a, o1, o2] ∧ PlanAt C [] H a n ps d ∧ Tm n ps d ∧ n ≤ 16 ∧ Dt [] H o1 (tupI p) ∧ Dt [] H o2 (tupI q) ∧ okP n ps p ∧ okP n ps q ∧
  ∀ (H' : Hp) (l : Addr) (us : List V) (pcs : List (List Int)), Keep [] H H' → H' l = some (.lst us) → Dts [] H' us (pcs.map tupI) → Chn ps p pcs q → ptot pcs = Dp ps d p q → pcs.length ≤ 100 → Q (.ref l) H'
def spRowZ (C : Addr) : Sp := fun vs H Q _ => ∃ (a : Addr) (o1 o2 : V) (n : Int) (ps : List Pi) (d : Int → Int → Int) (p q : Pl), vs = [.ref a, o1, o2] ∧ PlanAt C [] H a n ps d ∧ Tm n ps d ∧ n ≤ 16 ∧ Dt [] H o1 (tupI p) ∧ Dt [] H o2 (tupI q) ∧ okP n ps p ∧ okP n ps q ∧
  ∀ (H' : Hp) (l : Addr) (us : List V) (pcs : List (List Int)), Keep [] H H' → H l = none → H' l = some (.lst us) → Dts [] H' us (pcs.map tupI) → Chn ps p pcs q → ptot pcs = Dp ps d p q → pcs.length ≤ 20 → (p ≠ q → ∀ c ∈ pcs, c.getD 1 0 ≠ c.getD 2 0) → (∀ c ∈ pcs.dropLast, c.getD 2 0 = 0 ∨ c.getD 2 0 = (pr ps (c.getD 0 0)).l) → Q (.ref l) H'
/-! what the loop keeps: where it is, the pieces so far, the rooms that were left -/
structure RowI (n : Int) (ps : List Pi) (d : Int → Int → Int) (p : Pl) (s e fr : Int) (here : Int) (pcs : List (List Int)) (vis : List Int) : Prop where
  h0 : 0 ≤ here
  h1 : here < n
  ch : Chn ps p pcs [here]
  tot : ptot pcs + d here fr + e = s
  nd : vis.Nodup
  rg : ∀ v ∈ vis, 0 ≤ v ∧ v < n ∧ d fr here < d fr v
  few : pcs.length ≤ vis.length + 1
  nz : ∀ c ∈ pcs, c.getD 1 0 ≠ c.getD 2 0
  rm : ∀ c ∈ pcs, c.getD 2 0 = 0 ∨ c.getD 2 0 = (pr ps (c.getD 0 0)).l
theorem tups_keep {av : List Addr} {G G' : Hp} (k : ∀ b xs, G b = some (.tup xs) → G' b = some (.tup xs)) : ∀ (us : List V) (pcs : List (List Int)), Dts av G us (pcs.map tupI) → Dts av G' us (pcs.map tupI)
  | [], [], _ => .nil
  | _ :: us, c :: pcs, h => by
    cases h with
    | cons h1 h2 =>
      obtain ⟨t, rfl, nt, et⟩ := tupI_at h1
      exact .cons (.tup nt (k t _ et) (Dts.ints c)) (tups_keep k us pcs h2)
  | [], _ :: _, h => nomatch h
  | _ :: _, [], h => nomatch h
theorem app_lst {H G : Hp} {l t : Addr} {us : List V} {pcs : List (List Int)} (c : List Int) (nl : H l = none) (kG : Keep [] H G) (el : G l = some (.lst us)) (du : Dts [] G us (pcs.map tupI)) (nt : G t = none) :
    Keep [] H (upd (upd G t (.tup (c.map V.int))) l (.lst (us ++ [.ref t]))) ∧ (upd (upd G t (.tup (c.map V.int))) l (.lst (us ++ [.ref t]))) l = some (.lst (us ++ [.ref t])) ∧ Dts [] (upd (upd G t (.tup (c.map V.int))) l (.lst (us ++ [.ref t]))) (us ++ [.ref t]) ((pcs ++ [c]).map tupI) ∧ (upd G t (.tup (c.map V.int))) l = some (.lst us) := by
  have ntl : l ≠ t := ne_of_none el nt
  have el1 : (upd G t (.tup (c.map V.int))) l = some (.lst us) := by rw [upd_ne ntl]; exact el
  have kt : ∀ b xs, (upd G t (.tup (c.map V.int))) b = some (.tup xs) → (upd (upd G t (.tup (c.map V.int))) l (.lst (us ++ [.ref t]))) b = some (.tup xs) := keepTup (u := .lst (us ++ [.ref t])) el1 (fun xs z => by cases z)
  refine ⟨(kG.trans (Keep.new nt)).upd nl, upd_same, ?_, el1⟩
  rw [List.map_append]
  exact Dts.app (tups_keep (fun b xs eb => kt b xs (keepTupN nt b xs eb)) us pcs du) (.cons (.tup List.not_mem_nil (kt t _ upd_same) (Dts.ints c)) .nil)
theorem RowI.few' {n : Int} {ps : List Pi} {d : Int → Int → Int} {p : Pl} {s e fr here : Int} {pcs : List (List Int)} {vis : List Int} (I : RowI n ps d p s e fr here pcs vis) (hn : n ≤ 16) : pcs.length ≤ 17 := by
  have := pigeon 16 vis I.nd (fun t ht => by have := I.rg t ht; omega)
  have := I.few
  omega
theorem RowI.next {n : Int} {ps : List Pi} {d : Int → Int → Int} (T : Tm n ps d) {p : Pl} {s e fr here : Int} {pcs : List (List Int)} {vis : List Int} (I : RowI n ps d p s e fr here pcs vis) (f0 : 0 ≤ fr) (f1 : fr < n) {row : List Int} (h : TowRow ps d fr here row) :
    ∃ i a y b : Int, row = [i, a, y, b] ∧ RowI n ps d p s e fr y (pcs ++ [[i, a, b]]) (vis ++ [here]) ∧ (d fr y).toNat < (d fr here).toNat := by
  obtain ⟨i, pp, gp, h⟩ := h
  have il : i < ps.length := (List.getElem?_eq_some_iff.mp gp).1
  have ep := pr_of gp
  have m : pp ∈ ps := List.mem_of_getElem? gp
  obtain ⟨x0, x1, y0, y1, l1⟩ := T.ok pp m
  have nnf : ∀ t, 0 ≤ t → t < n → 0 ≤ d fr t := fun t t0 t1 => by
    by_cases z : fr = t
    · subst z; rw [T.zero]; exact Int.le_refl 0
    · have := T.pos fr t f0 f1 t0 t1 z; omega
  have fin : ∀ (a b y : Int), 0 ≤ y → y < n → ((a = 0 ∧ b = pp.l ∧ pp.x = here ∧ pp.y = y) ∨ (a = pp.l ∧ b = 0 ∧ pp.y = here ∧ pp.x = y)) → d fr y + pp.l = d fr here → RowI n ps d p s e fr y (pcs ++ [[(i : Int), a, b]]) (vis ++ [here]) ∧ (d fr y).toNat < (d fr here).toNat := fun a b y hy0 hy1 hab hd => by
    have pl : plen [(i : Int), a, b] = pp.l := by
      show ab a b = pp.l
      unfold ab
      rcases hab with ⟨h1, h2, _⟩ | ⟨h1, h2, _⟩ <;> rw [h1, h2] <;> split <;> omega
    have eb : [here] = beg ps [(i : Int), a, b] := by
      show _ = nm ps (i : Int) a
      rcases hab with ⟨h1, h2, h3, _⟩ | ⟨h1, h2, h3, _⟩
      · rw [h1, nm_0, ep, h3]
      · have z := nm_l (ps := ps) (i := (i : Int)) (by rw [ep]; omega)
        rw [ep] at z
        rw [h1, z, h3]
    have ef : fin' ps [(i : Int), a, b] = [y] := by
      show nm ps (i : Int) b = _
      rcases hab with ⟨h1, h2, _, h3⟩ | ⟨h1, h2, _, h3⟩
      · have z := nm_l (ps := ps) (i := (i : Int)) (by rw [ep]; omega)
        rw [ep] at z
        rw [h2, z, h3]
      · rw [h2, nm_0, ep, h3]
    have ok : PcOk ps [(i : Int), a, b] := ⟨i, a, b, rfl, by omega, by omega, by rcases hab with ⟨h1, h2, _⟩ | ⟨h1, h2, _⟩ <;> omega, by rw [ep]; rcases hab with ⟨h1, h2, _⟩ | ⟨h1, h2, _⟩ <;> omega, by rcases hab with ⟨h1, h2, _⟩ | ⟨h1, h2, _⟩ <;> omega, by rw [ep]; rcases hab with ⟨h1, h2, _⟩ | ⟨h1, h2, _⟩ <;> omega⟩
    have ny := nnf y hy0 hy1
    refine ⟨⟨hy0, hy1, ?_, ?_, ?_, fun v hv => ?_, ?_, fun c hc => (List.mem_append.mp hc).elim (I.nz c) (fun hc => by
      rw [List.mem_singleton.mp hc]
      show a ≠ b
      rcases hab with ⟨h1, h2, _⟩ | ⟨h1, h2, _⟩ <;> omega), fun c hc => (List.mem_append.mp hc).elim (I.rm c) (fun hc => by
      rw [List.mem_singleton.mp hc]
      show b = 0 ∨ b = (pr ps (i : Int)).l
      rw [ep]
      rcases hab with ⟨h1, h2, _⟩ | ⟨h1, h2, _⟩
      · exact .inr h2
      · exact .inl h2)⟩, by omega⟩
    · have z := I.ch.snoc ok eb
      rw [ef] at z; exact z
    · rw [ptot_snoc, pl]
      have := I.tot
      rw [T.sym y fr]
      rw [T.sym here fr] at this
      omega
    · refine List.nodup_append.mpr ⟨I.nd, by simp, fun u hu v hv => ?_⟩
      rw [List.mem_singleton.mp hv]
      intro z
      have := (I.rg u hu).2.2
      rw [z] at this
      omega
    · rcases List.mem_append.mp hv with hv | hv
      · have := I.rg v hv
        exact ⟨this.1, this.2.1, by omega⟩
      · rw [List.mem_singleton.mp hv]
        exact ⟨I.h0, I.h1, by omega⟩
    · rw [List.length_append, List.length_append, List.length_singleton, List.length_singleton]
      have := I.few
      omega
  rcases h with ⟨rfl, h1, h2⟩ | ⟨rfl, h1, h2⟩
  · exact ⟨_, _, _, _, rfl, fin _ _ _ y0 y1 (.inl ⟨rfl, rfl, h1, rfl⟩) h2⟩
  · exact ⟨_, _, _, _, rfl, fin _ _ _ x0 x1 (.inr ⟨rfl, rfl, h1, rfl⟩) h2⟩
theorem ok_rowZ {C : Addr} (h : Has K mg "row_of" sRow) (B : Blt mg) (X : PlanTxt K C) (CO : Can P w K mg base "are_in_one_pipe" ["one", "other"] 1 spOnePipe) (CS : Can P w K mg base "shortest" ["plan", "one", "other"] 2 (spShort C)) (CR : Can P w K mg base "room_at" ["plan", "pipe", "room"] 1 (spRAt C)) : Can P w K mg base "row_of" ["plan", "one", "other"] 3 (spRowZ C) := by
  obtain ⟨f, fd, F, g⟩ := h
  refine ⟨f, fd, F.ok (k := 2) scRow (fun vs H Q E h => ?_) (fun cdv A outer s H vs Q E hr h => ?_), g, F.kp, F.binds fun _ _ _ _ _ _ us hl => match us, hl with | [_, _, _], _ => rfl⟩
  · obtain ⟨a, o1, o2, n, ps, d, p, q, rfl, _⟩ := h
    rfl
  · obtain ⟨a, o1, o2, n, ps, d, p, q, rfl, pl, T, hn, h1, h2, okp, okq, k⟩ := h
    refine ⟨_, pss_cons (ps_if (pt_val (pe_can CO (hr.mono (by decide)) (by rfl) (pa_cons (pv 1) (pa_cons (pv 2) pa_nil)))) (pss_one (ps_ret (pe_lst (pa_cons (pe_tup (pa_cons (pe_ix ix_tup (pv 1) pe_int (fun _ _ => rfl)) (pa_cons (pe_ix ix_tup (pv 1) pe_int (fun _ _ => rfl)) (pa_cons (pe_ix ix_tup (pv 2) pe_int (fun _ _ => rfl)) pa_nil)))) pa_nil)))) pss_nil)
      (pss_cons (ps_asg (pe_can CS (hr.mono (by decide)) (by rfl) (pa_cons (pv 0) (pa_cons (pv 1) (pa_cons (pv 2) pa_nil)))) (pg_tup (by rfl) (pgs_cons (pg_name (i := 3) scRow.nd rfl (by first | exact Or.inl rfl | exact Or.inr rfl)) (pgs_cons (pg_name (i := 4) scRow.nd rfl (by first | exact Or.inl rfl | exact Or.inr rfl)) (pgs_cons (pg_name (i := 5) scRow.nd rfl (by first | exact Or.inl rfl | exact Or.inr rfl)) pgs_nil)))))
      (pss_cons (ps_set (i := 6) scRow.nd rfl (by first | exact Or.inl rfl | exact Or.inr rfl) (pe_lst pa_nil))
      (pss_cons (ps_if (pt_cmpR op_eq (pe_callB call_len_seq (by rfl) B.len_ PySem.boot_len (pa_cons (pv 1) pa_nil)) pe_int (nomark _)) (pss_one (ps_expr (pe_bm PySem.F.plainAttrs_list PySem.F.slot_list_append PySem.F.type_list_append mt_append (pv 6) (pa_cons (pe_tup (pa_cons (pe_ix ix_tup (pv 1) pe_int (fun _ _ => rfl)) (pa_cons (pe_ix ix_tup (pv 1) pe_int (fun _ _ => rfl)) (pa_cons (pe_can CR (hr.mono (by decide)) (by rfl) (pa_cons (pv 0) (pa_cons (pe_ix ix_tup (pv 1) pe_int (fun _ _ => rfl)) (pa_cons (pv 4) pa_nil)))) pa_nil)))) pa_nil)))) pss_nil)
      (pss_cons (ps_while PassesOwn.never (pt_cmpR op_ne (pv 4) (pv 5) (nomark _))
      (pss_cons (ps_asg (pe_dget (hu_of hr) (pe_ix ix_list (pe_fld (pv 0) rfl) (pv 5) (fun _ _ => rfl)) (pv 4) (fun _ _ => rfl)) (pg_tup (by rfl) (pgs_cons (pg_name (i := 7) scRow.nd rfl (by first | exact Or.inl rfl | exact Or.inr rfl)) (pgs_cons (pg_name (i := 8) scRow.nd rfl (by first | exact Or.inl rfl | exact Or.inr rfl)) (pgs_cons (pg_name (i := 9) scRow.nd rfl (by first | exact Or.inl rfl | exact Or.inr rfl)) (pgs_cons (pg_name (i := 10) scRow.nd rfl (by first | exact Or.inl rfl | exact Or.inr rfl)) pgs_nil))))))
      (pss_cons (ps_expr (pe_bm PySem.F.plainAttrs_list PySem.F.slot_list_append PySem.F.type_list_append mt_append (pv 6) (pa_cons (pe_tup (pa_cons (pv 7) (pa_cons (pv 8) (pa_cons (pv 10) pa_nil)))) pa_nil)))
      (pss_one (ps_set (i := 4) scRow.nd rfl (by first | exact Or.inl rfl | exact Or.inr rfl) (pv 9))))))
      (pss_cons (ps_if (pt_cmpR op_eq (pe_callB call_len_seq (by rfl) B.len_ PySem.boot_len (pa_cons (pv 2) pa_nil)) pe_int (nomark _)) (pss_one (ps_expr (pe_bm PySem.F.plainAttrs_list PySem.F.slot_list_append PySem.F.type_list_append mt_append (pv 6) (pa_cons (pe_tup (pa_cons (pe_ix ix_tup (pv 2) pe_int (fun _ _ => rfl)) (pa_cons (pe_can CR (hr.mono (by decide)) (by rfl) (pa_cons (pv 0) (pa_cons (pe_ix ix_tup (pv 2) pe_int (fun _ _ => rfl)) (pa_cons (pv 5) pa_nil)))) (pa_cons (pe_ix ix_tup (pv 2) pe_int (fun _ _ => rfl)) pa_nil)))) pa_nil)))) pss_nil)
      (pss_one (ps_ret (pv 6)))))))), ?_⟩
    refine ⟨o1, rfl, o2, rfl, o1, o2, p, q, rfl, h1, h2, ok_ne okp, ok_ne okq, _, rfl, ?_⟩
    cases c : onePipe p q with
    | true =>
      obtain ⟨i, x, y, rfl, rfl, e⟩ := one_pipe (d := d) okp okq c
      obtain ⟨a1, rfl, _, e1⟩ := tupI_at h1
      obtain ⟨a2, rfl, _, e2⟩ := tupI_at h2
      refine iteT ⟨.ref a1, rfl, a1, _, 0, .int i, rfl, rfl, SqT.of e1, atI_nat (j := 0) rfl, .ref a1, rfl, a1, _, 1, .int x, rfl, rfl, SqT.of e1, atI_nat (j := 1) rfl, .ref a2, rfl, a2, _, 1, .int y, rfl, rfl, SqT.of e2, atI_nat (j := 1) rfl, show 3 ≤ sizeLine by decide, fun t nt => ⟨show 1 ≤ sizeLine by decide, fun l nl => ?_⟩⟩
      rcases ok_cases okp with ⟨_, z, _⟩ | ⟨i', x', z, i0, i1, x0, x1⟩
      · cases z
      obtain ⟨ei, z2⟩ := List.cons.inj z
      obtain ⟨ex, _⟩ := List.cons.inj z2
      subst ei ex
      rcases ok_cases okq with ⟨_, z, _⟩ | ⟨i', y', z, _, _, y0, y1⟩
      · cases z
      obtain ⟨ei, z2⟩ := List.cons.inj z
      obtain ⟨ey, _⟩ := List.cons.inj z2
      subst ei ey
      have nx : nm ps i x = [i, x] := nm_mid (by omega) (by omega)
      have ny : nm ps i y = [i, y] := nm_mid (by omega) (by omega)
      have ok : PcOk ps [i, x, y] := ⟨i, x, y, rfl, i0, i1, by omega, by omega, by omega, by omega⟩
      have ch : Chn ps (beg ps [i, x, y]) [[i, x, y]] (fin' ps [i, x, y]) := .cons ok (.nil _)
      have e1' : beg ps [i, x, y] = [i, x] := nx
      have e2' : fin' ps [i, x, y] = [i, y] := ny
      rw [e1', e2'] at ch
      refine k _ l _ [[i, x, y]] ((Keep.new nt).trans (Keep.new nl)) ((Keep.new nt).fr nl) upd_same (.cons (.tup List.not_mem_nil (by rw [upd_ne (ne_of_none upd_same nl)]; exact upd_same) (Dts.ints [i, x, y])) .nil) ch ?_ (by show 1 ≤ 20; decide) (fun ne c hc => by
        rw [List.mem_singleton.mp hc]
        show x ≠ y
        exact fun h => ne (by rw [h])) (fun c hc => (nomatch hc))
      rw [e]
      show ab x y + 0 = ab x y
      omega
    | false =>
      refine iteF ⟨.ref a, rfl, o1, rfl, o2, rfl, a, o1, o2, n, ps, d, p, q, rfl, pl, T, h1, h2, okp, okq, fun H' v ns kH dv mn hm => ?_⟩
      have es := trips_min T okp okq c mn hm
      obtain ⟨en, men, mn2⟩ := List.mem_flatMap.mp mn
      obtain ⟨ef, mef, rfl⟩ := List.mem_map.mp mn2
      obtain ⟨r, b, rfl, r0, r1⟩ := exits_ok T okp en men
      obtain ⟨fr, e, rfl, f0, f1⟩ := exits_ok T okq ef mef
      have es' : b + d r fr + e = Dp ps d p q := es
      obtain ⟨t, rfl, _, et⟩ := tupI_at dv
      refine ⟨t, _, rfl, SqT.of et, rfl, _, _, rfl, _, _, rfl, _, [], rfl, rfl, ?_⟩
      refine ⟨show 0 ≤ sizeLine by decide, fun l nl => ?_⟩
      have kl : Keep [] H (upd H' l (.lst [])) := kH.trans (Keep.new nl)
      have fl : H l = none := kH.fr nl
      have el : (upd H' l (.lst [])) l = some (.lst []) := upd_same
      generalize upd H' l (.lst []) = G0 at kl el ⊢
      obtain ⟨a1, rfl, _, e1⟩ := tupI_at h1
      obtain ⟨a2, rfl, _, e2⟩ := tupI_at h2
      have big : ∀ x : Nat, x ≤ 17 → x < sizeLine := fun x hx => Nat.lt_of_lt_of_le (by omega : x < 1000) (small1000 (by omega))
      rcases ok_cases okp with ⟨r', ep, _, _⟩ | ⟨i, x, ep, i0, i1, x0, x1⟩
      case' inl =>
        have z : [r, b] ∈ [[r', 0]] := by rw [ep] at men; exact men
        obtain ⟨z1, z2⟩ := List.cons.inj (List.mem_singleton.mp z)
        have z3 := (List.cons.inj z2).1
        have I0 : RowI n ps d p (Dp ps d p q) e fr r [] [] := ⟨r0, r1, by rw [ep, ← z1]; exact .nil _, by show 0 + d r fr + e = _; omega, List.nodup_nil, fun _ z => (nomatch z), Nat.zero_le _, fun _ z => (nomatch z), fun _ z => (nomatch z)⟩
        have e1' : H a1 = some (.tup [.int r']) := by rw [ep] at e1; exact e1
        refine ⟨.ref a1, rfl, a1, _, rfl, .inr (SqT.of (kl a1 _ e1' List.not_mem_nil)), rfl, false, rfl, iteF ?_⟩
        refine ⟨fun m σ G => ∃ (here : Int) (us : List V) (pcs : List (List Int)) (vis : List Int) (S : V) (s7 s8 s9 s10 : Option V), σ = [some (.ref a), some (.ref a1), some (.ref a2), some S, some (.int here), some (.int fr), some (.ref l), s7, s8, s9, s10] ∧ Keep [] H G ∧ G l = some (.lst us) ∧ Dts [] G us (pcs.map tupI) ∧ RowI n ps d p (Dp ps d p q) e fr here pcs vis ∧ m = (d fr here).toNat,
          ⟨_, r, [], [], [], _, none, none, none, none, rfl, kl, el, .nil, I0, rfl⟩, fun m σ G pp => ?_⟩
      case' inr =>
        have e1' : H a1 = some (.tup [.int i, .int x]) := by rw [ep] at e1; exact e1
        have e1G := kl a1 _ e1' List.not_mem_nil
        have men' : [r, b] ∈ exitsL ps [i, x] := by rw [ep] at men; exact men
        obtain ⟨g0, g1, g2, g3, _, g5⟩ := room_pc T i0 i1 x0 x1 men'
        refine ⟨.ref a1, rfl, a1, _, rfl, .inr (SqT.of e1G), rfl, true, rfl, iteT ?_⟩
        refine ⟨.ref l, rfl, .inl ⟨rfl, _, SqL.of el⟩, .ref a1, rfl, a1, _, 0, .int i, rfl, rfl, SqT.of e1G, atI_nat (j := 0) rfl, .ref a1, rfl, a1, _, 1, .int x, rfl, rfl, SqT.of e1G, atI_nat (j := 1) rfl, .ref a, rfl, .ref a1, rfl, a1, _, 0, .int i, rfl, rfl, SqT.of e1G, atI_nat (j := 0) rfl, .int r, rfl, a, n, i, r, ps, d, rfl, pl.keep kl, i0, i1, show 3 ≤ sizeLine by decide, fun t nt => ?_⟩
        obtain ⟨m1, m2, m3, m4⟩ := app_lst (pcs := []) [i, x, roomAt ps i r] fl kl el .nil nt
        refine ⟨l, _, _, rfl, rfl, m4, big 0 (by omega), ?_⟩
        have ok : PcOk ps [i, x, roomAt ps i r] := ⟨i, x, _, rfl, i0, i1, by omega, by omega, g0, g1⟩
        have ch : Chn ps (beg ps [i, x, roomAt ps i r]) [[i, x, roomAt ps i r]] (fin' ps [i, x, roomAt ps i r]) := .cons ok (.nil _)
        have b1 : beg ps [i, x, roomAt ps i r] = p := g5.trans ep.symm
        have b2 : fin' ps [i, x, roomAt ps i r] = [r] := g2
        rw [b1, b2] at ch
        have I0 : RowI n ps d p (Dp ps d p q) e fr r [[i, x, roomAt ps i r]] [] := ⟨r0, r1, ch, by show ab x (roomAt ps i r) + 0 + d r fr + e = _; omega, List.nodup_nil, fun _ z => (nomatch z), Nat.le_refl _, fun c hc => by
          rw [List.mem_singleton.mp hc]
          show x ≠ roomAt ps i r
          unfold roomAt
          split <;> omega, fun c hc => by
          rw [List.mem_singleton.mp hc]
          show roomAt ps i r = 0 ∨ roomAt ps i r = (pr ps i).l
          unfold roomAt
          split
          · exact .inl rfl
          · exact .inr rfl⟩
        refine ⟨fun m σ G => ∃ (here : Int) (us : List V) (pcs : List (List Int)) (vis : List Int) (S : V) (s7 s8 s9 s10 : Option V), σ = [some (.ref a), some (.ref a1), some (.ref a2), some S, some (.int here), some (.int fr), some (.ref l), s7, s8, s9, s10] ∧ Keep [] H G ∧ G l = some (.lst us) ∧ Dts [] G us (pcs.map tupI) ∧ RowI n ps d p (Dp ps d p q) e fr here pcs vis ∧ m = (d fr here).toNat,
          ⟨_, r, _, _, [], _, none, none, none, none, rfl, m1, m2, m3, I0, rfl⟩, fun m σ G pp => ?_⟩
      all_goals
        clear ep
        obtain ⟨here, us, pcs, vis, S, s7, s8, s9, s10, rfl, kG, elG, du, I, rfl⟩ := pp
        have few := I.few' hn
        have lus : us.length = pcs.length := by rw [du.len, List.length_map]
        refine ⟨.int here, rfl, .int fr, rfl, rfl, _, rfl, ?_⟩
        by_cases eh : here = fr
        · rw [show (!decide (V.int here = V.int fr)) = false from by rw [decide_eq_true (congrArg V.int eh)]; rfl]
          refine iteF ?_
          have tot := I.tot
          have ch := I.ch
          rw [eh, T.zero] at tot
          rw [eh] at ch
          have e2G := kG a2 _ e2 List.not_mem_nil
          rcases ok_cases okq with ⟨t', eq, _, _⟩ | ⟨j, y, eq, j0, j1, y0, y1⟩
          · have z : [fr, e] ∈ [[t', 0]] := by rw [eq] at mef; exact mef
            obtain ⟨z1, z2⟩ := List.cons.inj (List.mem_singleton.mp z)
            have z3 := (List.cons.inj z2).1
            have e2' : G a2 = some (.tup [.int t']) := by rw [eq] at e2G; exact e2G
            refine ⟨.ref a2, rfl, a2, _, rfl, .inr (SqT.of e2'), rfl, false, rfl, iteF ?_⟩
            exact ⟨.ref l, rfl, k G l us pcs kG fl elG du (by rw [eq, ← z1]; exact ch) (by omega) (by omega) (fun _ => I.nz) (fun c hc => I.rm c (List.dropLast_subset _ hc))⟩
          · have e2' : G a2 = some (.tup [.int j, .int y]) := by rw [eq] at e2G; exact e2G
            have mef' : [fr, e] ∈ exitsL ps [j, y] := by rw [eq] at mef; exact mef
            obtain ⟨g0, g1, g2, _, g4, g5⟩ := room_pc T j0 j1 y0 y1 mef'
            refine ⟨.ref a2, rfl, a2, _, rfl, .inr (SqT.of e2'), rfl, true, rfl, iteT ?_⟩
            refine ⟨.ref l, rfl, .inl ⟨rfl, _, SqL.of elG⟩, .ref a2, rfl, a2, _, 0, .int j, rfl, rfl, SqT.of e2', atI_nat (j := 0) rfl, .ref a, rfl, .ref a2, rfl, a2, _, 0, .int j, rfl, rfl, SqT.of e2', atI_nat (j := 0) rfl, .int fr, rfl, a, n, j, fr, ps, d, rfl, pl.keep kG, j0, j1, .ref a2, rfl, a2, _, 1, .int y, rfl, rfl, SqT.of e2', atI_nat (j := 1) rfl, show 3 ≤ sizeLine by decide, fun t nt => ?_⟩
            obtain ⟨m1, m2, m3, m4⟩ := app_lst [j, roomAt ps j fr, y] fl kG elG du nt
            refine ⟨l, _, _, rfl, rfl, m4, big _ (by omega), ?_⟩
            have ok : PcOk ps [j, roomAt ps j fr, y] := ⟨j, _, y, rfl, j0, j1, g0, g1, by omega, by omega⟩
            have ch2 := ch.snoc ok g2.symm
            have b2 : fin' ps [j, roomAt ps j fr, y] = q := g5.trans eq.symm
            rw [b2] at ch2
            refine ⟨.ref l, rfl, k _ l _ _ m1 fl m2 m3 ch2 ?_ (by rw [List.length_append, List.length_singleton]; omega) (fun _ c hc => (List.mem_append.mp hc).elim (I.nz c) (fun hc => by
              rw [List.mem_singleton.mp hc]
              show roomAt ps j fr ≠ y
              unfold roomAt
              split <;> omega)) (fun c hc => I.rm c (by rw [List.dropLast_concat] at hc; exact hc))⟩
            rw [ptot_snoc]
            show ptot pcs + ab (roomAt ps j fr) y = _
            omega
        · rw [show (!decide (V.int here = V.int fr)) = true from by rw [decide_eq_false (fun z => eh (V.int.inj z))]; rfl]
          refine iteT ?_
          refine ⟨fun σ' G' => ∃ m', m' < (d fr here).toNat ∧ ∃ (here : Int) (us : List V) (pcs : List (List Int)) (vis : List Int) (S : V) (s7 s8 s9 s10 : Option V), σ' = [some (.ref a), some (.ref a1), some (.ref a2), some S, some (.int here), some (.int fr), some (.ref l), s7, s8, s9, s10] ∧ Keep [] H G' ∧ G' l = some (.lst us) ∧ Dts [] G' us (pcs.map tupI) ∧ RowI n ps d p (Dp ps d p q) e fr here pcs vis ∧ m' = (d fr here).toNat, fun σ' G' h => h, ?_⟩
          obtain ⟨dx, hb, pp, dl, gl, tl, xp, ds, gs, ws, q1, q2, q3, q4, q5, q6, q7, q8, q9, b1, b2, b3, b4, b5, b6, b7, b8, b9, c1, c2⟩ := pl.keep kG
          obtain ⟨wz, gwz⟩ : ∃ z, ws[fr.toNat]? = some z := ⟨_, List.getElem?_eq_getElem (by omega)⟩
          obtain ⟨_, kvs, ekv, tw⟩ := c2 fr.toNat wz gwz
          have efr : ((fr.toNat : Nat) : Int) = fr := by omega
          rw [efr] at tw
          obtain ⟨Tr', row, hval, _, eT, trow⟩ := tw here (start_mem.mpr ⟨I.h0, by have := I.h1; omega⟩) eh
          obtain ⟨i', x', y', z', rfl, I', ms⟩ := I.next T f0 f1 trow
          refine ⟨.ref a, rfl, a, C, dx, _, .ref tl, rfl, q2, X.cl, X.nT, pf_tow .., .int fr, rfl, tl, _, fr, .ref wz, rfl, rfl, SqL.of b9, atI_of f0 (by rw [List.getElem?_map, gwz]; rfl), .int here, rfl, wz, .ref Tr', rfl, by rw [← hval]; exact DGet.k (k := Sum.inl here) ekv, Tr', _, rfl, SqT.of eT, rfl, _, _, rfl, _, _, rfl, _, _, rfl, _, [], rfl, rfl, ?_⟩
          refine ⟨.ref l, rfl, .inl ⟨rfl, _, SqL.of elG⟩, .int i', rfl, .int x', rfl, .int z', rfl, show 3 ≤ sizeLine by decide, fun t nt => ?_⟩
          obtain ⟨m1, m2, m3, m4⟩ := app_lst [i', x', z'] fl kG elG du nt
          refine ⟨l, _, _, rfl, rfl, m4, big _ (by omega), .int y', rfl, ?_⟩
          exact ⟨_, ms, y', _, _, _, _, _, _, _, _, rfl, m1, m2, m3, I', rfl⟩
theorem ok_row {C : Addr} (h : Has K mg "row_of" sRow) (B : Blt mg) (X : PlanTxt K C) (CO : Can P w K mg base "are_in_one_pipe" ["one", "other"] 1 spOnePipe) (CS : Can P w K mg base "shortest" ["plan", "one", "other"] 2 (spShort C)) (CR : Can P w K mg base "room_at" ["plan", "pipe", "room"] 1 (spRAt C)) : Can P w K mg base "row_of" ["plan", "one", "other"] 3 (spRow C) := by
  obtain ⟨f, fd, F, g, kp, bi⟩ := ok_rowZ h B X CO CS CR
  exact ⟨f, fd, F.imp fun vs H Q E h => (by
    obtain ⟨a, o1, o2, n, ps, d, p, q, e, pl, T, hn, h1, h2, okp, okq, k⟩ := h
    exact ⟨a, o1, o2, n, ps, d, p, q, e, pl, T, hn, h1, h2, okp, okq, fun H' l us pcs a1 _ a2 a3 a4 a5 a6 _ _ => k H' l us pcs a1 a2 a3 a4 a5 (by omega)⟩), g, kp, bi⟩
end
end Rw

namespace Rw
open PySem PySem.Spec PyProof.Rows L2
end Rw

namespace Rw
open PySem PySem.Spec PyProof.Rows L2
def trH (d : Int → Int → Int) (e f : List Int) : Int := e.getD 1 0 + d (e.getD 0 0) (f.getD 0 0) + f.getD 1 0
theorem trips_heads (ps : List Pi) (d : Int → Int → Int) (p q : Pl) : (trips ps d p q).map (fun x => x.headD 0) = (exitsL ps p).flatMap fun e => (exitsL ps q).map (trH d e) := by
  unfold trips
  rw [List.map_flatMap]
  refine congrArg (fun f => (exitsL ps p).flatMap f) (funext fun e => ?_)
  rw [List.map_map]; rfl
theorem exits_len {n : Int} {ps : List Pi} {p : Pl} (h : okP n ps p) : 1 ≤ (exitsL ps p).length ∧ (exitsL ps p).length ≤ 2 := by
  rcases ok_cases h with ⟨r, rfl, r0, r1⟩ | ⟨i, b, rfl, h0, h1, b0, b1⟩
  · exact ⟨Nat.le_refl 1, show 1 ≤ 2 by decide⟩
  · exact ⟨show 1 ≤ 2 by decide, Nat.le_refl 2⟩
end Rw

namespace Rw
open PySem PySem.Spec PyProof.Rows L2
/-! ### going through a house from a place -/
theorem nodup_le {α : Type} [DecidableEq α] : ∀ (F L : List α), F.Nodup → (∀ x ∈ F, x ∈ L) → F.length ≤ L.length
  | [], _, _, _ => Nat.zero_le _
  | x :: F, L, nd, h => by
    have nd' := List.nodup_cons.mp nd
    have m := h x List.mem_cons_self
    have e := List.length_erase_of_mem m
    have p := List.length_pos_of_mem m
    have := nodup_le F (L.erase x) nd'.2 (fun y hy => (List.mem_erase_of_ne (fun z : y = x => nd'.1 (by rw [← z]; exact hy))).mpr (h y (List.mem_cons_of_mem _ hy)))
    rw [List.length_cons]; omega
theorem Bes.less {av av' : List Addr} {G : Hp} {kvs : List (List Key × V)} {R : Pl → Pl → Prop} {n : Int} {ps : List Pi} {m : Nat} (h : Bes av G kvs R n ps m) (s : ∀ a ∈ av', a ∈ av) : Bes av' G kvs R n ps m := by
  refine ⟨h.1, h.2.1, fun p => ?_⟩
  rcases h.2.2 p with z | ⟨L, us, qs, h1, h2, h3, h4, h5⟩
  · exact .inl z
  · exact .inr ⟨L, us, qs, h1, fun m => h2 (s _ m), h3, h4.less s, h5⟩
theorem Bes.more {av : List Addr} {G : Hp} {kvs : List (List Key × V)} {R : Pl → Pl → Prop} {n : Int} {ps : List Pi} {m : Nat} {p : Addr} (h : Bes av G kvs R n ps m) (np : G p = none) : Bes (p :: av) G kvs R n ps m := by
  refine ⟨h.1, h.2.1, fun q => ?_⟩
  rcases h.2.2 q with z | ⟨L, us, qs, h1, h2, h3, h4, h5⟩
  · exact .inl z
  · exact .inr ⟨L, us, qs, h1, fun m => (List.mem_cons.mp m).elim (ne_of_none h3 np) h2, h3, h4.more np, h5⟩
theorem Rd.keep {av : List Addr} {H H' : Hp} {a : Addr} {o : HO} (h : Rd H a o) (na : a ∉ av) (k : Keep av H H') : Rd H' a o := by
  rcases h with e | ⟨u, e⟩
  · exact .inl (k a _ e na)
  · exact .inr ⟨u, k a _ e na⟩
theorem bes_key {av : List Addr} {G : Hp} {kvs : List (List Key × V)} {n : Int} {ps : List Pi} {d : Int → Int → Int} {m : Nat} (T : Tm n ps d) (h : Bes av G kvs (Adj ps) n ps m) (rk : ∀ r, 0 ≤ r → r < n → valV kvs (keyOf [r]) ≠ none) {p : Pl} (ok : okP n ps p) : valV kvs (keyOf p) ≠ none := by
  rcases ok_cases ok with ⟨r, rfl, r0, r1⟩ | ⟨i, a, rfl, h0, h1, a0, a1⟩
  · exact rk r r0 r1
  · intro z
    rcases h.2.2 [i, a] with ⟨_, z2⟩ | ⟨L, _, _, e, _⟩
    · exact z2 (nm ps i (a + 1)) ⟨i, a, h0, h1, by omega, by omega, .inl ⟨(nm_mid (by omega) (by omega)).symm, rfl⟩⟩
    · rw [z] at e; cases e
/-! what was found, in its order; the first t were gone through -/
structure SP (n : Int) (ps : List Pi) (d : Int → Int → Int) (s : Pl) (F : List Pl) (t : Nat) (qs : List Pl) : Prop where
  nd : F.Nodup
  ok : ∀ p ∈ F, okP n ps p
  src : s ∈ F
  par : Pard s (Dp ps d s) (fun p q w => Adj ps p q ∧ w = 1) F
  le : t ≤ F.length
  cl : ∀ (j : Nat) (u : Pl), j < t → F[j]? = some u → ∀ v, Adj ps u v → v ∈ F
  now : ∀ q ∈ qs, q ∈ F
theorem SP.first {n : Int} {ps : List Pi} {d : Int → Int → Int} {s : Pl} (hs : okP n ps s) : SP n ps d s [s] 0 [] where
  nd := by simp
  ok := fun p hp => by rw [List.mem_singleton.mp hp]; exact hs
  src := List.mem_cons_self
  par := fun v hv nv => absurd (List.mem_singleton.mp hv) nv
  le := Nat.zero_le _
  cl := fun j u hj => absurd hj (Nat.not_lt_zero _)
  now := fun q hq => absurd hq List.not_mem_nil
theorem SP.have {n : Int} {ps : List Pi} {d : Int → Int → Int} {s v : Pl} {F : List Pl} {t : Nat} {qs : List Pl} (S : SP n ps d s F t qs) (hv : v ∈ F) : SP n ps d s F t (qs ++ [v]) :=
  ⟨S.nd, S.ok, S.src, S.par, S.le, S.cl, fun q hq => (List.mem_append.mp hq).elim (S.now q) (fun z => by rw [List.mem_singleton.mp z]; exact hv)⟩
theorem SP.add {n : Int} {ps : List Pi} {d : Int → Int → Int} {s h v : Pl} {F : List Pl} {t : Nat} {qs : List Pl} (T : Tm n ps d) (S : SP n ps d s F t qs) (hh : h ∈ F) (nv : v ∉ F) (e : Adj ps h v) : SP n ps d s (F ++ [v]) t (qs ++ [v]) ∧ Dp ps d s v = Dp ps d s h + 1 := by
  have R := T.places (S.ok s S.src)
  have dv := R.found S.par hh (S.ok h hh) ⟨e, rfl⟩ nv
  refine ⟨⟨?_, ?_, List.mem_append_left _ S.src, S.par.snoc hh ⟨e.symm, rfl⟩ dv, by have := S.le; rw [List.length_append]; omega, ?_, ?_⟩, dv⟩
  · refine List.nodup_append.mpr ⟨S.nd, by simp, fun a ha b hb z => ?_⟩
    rw [List.mem_singleton.mp hb] at z
    exact nv (z ▸ ha)
  · intro p hp
    rcases List.mem_append.mp hp with m | m
    · exact S.ok p m
    · rw [List.mem_singleton.mp m]; exact ok_adj T e
  · intro j u hj gu x ex
    have c : j < F.length := Nat.lt_of_lt_of_le hj S.le
    rw [List.getElem?_append_left c] at gu
    exact List.mem_append_left _ (S.cl j u hj gu x ex)
  · intro q hq
    rcases List.mem_append.mp hq with m | m
    · exact List.mem_append_left _ (S.now q m)
    · exact List.mem_append_right _ m
theorem SP.done {n : Int} {ps : List Pi} {d : Int → Int → Int} {s h : Pl} {F : List Pl} {t : Nat} {qs : List Pl} (S : SP n ps d s F t qs) (gh : F[t]? = some h) (hq : ∀ q, Adj ps h q → q ∈ qs) : SP n ps d s F (t + 1) [] where
  nd := S.nd
  ok := S.ok
  src := S.src
  par := S.par
  le := (List.getElem?_eq_some_iff.mp gh).1
  cl := fun j u hj gu v e => by
    by_cases c : j < t
    · exact S.cl j u c gu v e
    · have ej : j = t := by omega
      subst ej
      rw [gh] at gu; cases gu
      exact S.now v (hq v e)
  now := fun q hq => absurd hq List.not_mem_nil
theorem SP.all {n : Int} {ps : List Pi} {d : Int → Int → Int} {s : Pl} {F : List Pl} (T : Tm n ps d) (S : SP n ps d s F F.length []) {p : Pl} (ok : okP n ps p) : p ∈ F := by
  refine (T.places (S.ok s S.src)).all S.src (fun u hu v w e => ?_) _ p ok (Nat.lt_succ_self _)
  obtain ⟨j, gj⟩ := List.mem_iff_getElem?.mp hu
  exact S.cl j u (List.getElem?_eq_some_iff.mp gj).1 gj v e.1
def ParE (G : Hp) (ps : List Pi) (d : Int → Int → Int) (s p : Pl) (o : V) : Prop := (p = s ∧ o = .non) ∨ ∃ (Tu : Addr) (u : Pl), o = .ref Tu ∧ G Tu = some (.tup (u.map V.int)) ∧ Adj ps p u ∧ Dp ps d s p = Dp ps d s u + 1
theorem ParE.keep {G G' : Hp} {ps : List Pi} {d : Int → Int → Int} {s p : Pl} {o : V} (h : ParE G ps d s p o) (k : ∀ b xs, G b = some (.tup xs) → G' b = some (.tup xs)) : ParE G' ps d s p o := by
  rcases h with z | ⟨Tu, u, h1, h2, h3⟩
  · exact .inl z
  · exact .inr ⟨Tu, u, h1, k Tu _ h2, h3⟩
def FoundE (G : Hp) (gk : List (List Key × V)) (F : List Pl) (ps : List Pi) (d : Int → Int → Int) (s : Pl) : Prop :=
  gk.length = F.length ∧ (∀ p ∈ F, ∃ (T : Addr) (o : V), valV gk (keyOf p) = some (.ref T) ∧ G T = some (.tup [.int (Dp ps d s p), o]) ∧ ParE G ps d s p o) ∧ ∀ p, p ∉ F → valV gk (keyOf p) = none
theorem FoundE.keep {G G' : Hp} {gk : List (List Key × V)} {F : List Pl} {ps : List Pi} {d : Int → Int → Int} {s : Pl} (h : FoundE G gk F ps d s) (k : ∀ b xs, G b = some (.tup xs) → G' b = some (.tup xs)) : FoundE G' gk F ps d s := by
  refine ⟨h.1, fun p hp => ?_, h.2.2⟩
  obtain ⟨T, o, h1, h2, h3⟩ := h.2.1 p hp
  exact ⟨T, o, h1, k T _ h2, h3.keep k⟩
theorem FoundE.put {G : Hp} {gk : List (List Key × V)} {F : List Pl} {ps : List Pi} {d : Int → Int → Int} {s v : Pl} {T : Addr} {o : V} (h : FoundE G gk F ps d s) (nv : v ∉ F) (eT : G T = some (.tup [.int (Dp ps d s v), o])) (pe : ParE G ps d s v o) : FoundE G (putK gk (keyOf v) (.ref T)) (F ++ [v]) ps d s := by
  obtain ⟨h1, h2, h3⟩ := h
  refine ⟨?_, fun t ht => ?_, fun t ht => ?_⟩
  · rw [putK_new _ (h3 v nv), List.length_append, List.length_append, h1]; rfl
  · rw [valV_put]
    by_cases e : t = v
    · rw [e, if_pos rfl]; exact ⟨T, o, rfl, eT, pe⟩
    · rw [if_neg (fun z => e (keyOf_inj z))]
      rcases List.mem_append.mp ht with m | m
      · exact h2 t m
      · exact absurd (List.mem_singleton.mp m) e
  · rw [valV_put, if_neg (fun z => ht (by rw [keyOf_inj z]; exact List.mem_append_right _ List.mem_cons_self))]
    exact h3 t (fun z => ht (List.mem_append_left _ z))
theorem SP.few {av : List Addr} {G : Hp} {kvs : List (List Key × V)} {n : Int} {ps : List Pi} {d : Int → Int → Int} {s : Pl} {F : List Pl} {t m : Nat} {qs : List Pl} (S : SP n ps d s F t qs) (T : Tm n ps d) (b : Bes av G kvs (Adj ps) n ps m) (rk : ∀ r, 0 ≤ r → r < n → valV kvs (keyOf [r]) ≠ none) : F.length ≤ m := by
  have z := nodup_le (F.map keyOf) (kvs.map (·.1)) ((List.Pairwise.map keyOf (fun a b (h : a ≠ b) z => h (keyOf_inj z)) S.nd)) (fun x hx => by
    obtain ⟨p, hp, rfl⟩ := List.mem_map.mp hx
    have k := bes_key T b rk (S.ok p hp)
    cases e : valV kvs (keyOf p) with
    | none => exact absurd e k
    | some v => exact valV_in e)
  rw [List.length_map, List.length_map] at z
  exact Nat.le_trans z b.1
end Rw

namespace Rw
open PySem PySem.Spec PyProof.Rows L2
/-! ### sorted lists of places -/
def sortL (nss : List (List Int)) : List (List Int) := nss.mergeSort leI
theorem sortVI_snd (bs : List VI) : (sortVI bs).map (·.2) = sortL (bs.map (·.2)) := List.map_mergeSort (fun _ _ _ _ => rfl)
theorem zip_fst {us : List V} {nss : List (List Int)} (h : us.length = nss.length) : (us.zip nss).map (·.1) = us := List.map_fst_zip (Nat.le_of_eq h)
theorem zip_snd {us : List V} {nss : List (List Int)} (h : us.length = nss.length) : (us.zip nss).map (·.2) = nss := List.map_snd_zip (Nat.le_of_eq h.symm)
theorem zip_enc {us : List V} {nss : List (List Int)} (h : us.length = nss.length) : (us.zip nss).map encVI = nss.map tupI := by
  have e : (us.zip nss).map encVI = ((us.zip nss).map (·.2)).map tupI := by rw [List.map_map]; rfl
  rw [e, zip_snd h]
theorem dts_zip {av : List Addr} {H : Hp} : ∀ {us : List V} {nss : List (List Int)}, Dts av H us (nss.map tupI) → ∀ b ∈ us.zip nss, Dt av H b.1 (encVI b)
  | [], _, _, b, m => by simp at m
  | _ :: _, [], _, b, m => by simp at m
  | u :: us, n :: nss, h, b, m => by
    cases h with
    | cons h1 h2 =>
      rw [List.zip_cons_cons] at m
      rcases List.mem_cons.mp m with e | e
      · rw [e]; exact h1
      · exact dts_zip h2 b e
theorem dts_map {av : List Addr} {H : Hp} : ∀ {bs : List VI}, (∀ b ∈ bs, Dt av H b.1 (encVI b)) → Dts av H (bs.map (·.1)) (bs.map encVI)
  | [], _ => .nil
  | b :: bs, h => .cons (h b List.mem_cons_self) (dts_map fun c m => h c (List.mem_cons_of_mem _ m))
theorem dts_sort {av : List Addr} {H : Hp} {us : List V} {nss : List (List Int)} (h : Dts av H us (nss.map tupI)) : Dts av H ((sortVI (us.zip nss)).map (·.1)) ((sortL nss).map tupI) := by
  have l : us.length = nss.length := by have := h.len; rw [List.length_map] at this; exact this
  have z : Dts av H ((sortVI (us.zip nss)).map (·.1)) ((sortVI (us.zip nss)).map encVI) := dts_map fun b m => dts_zip h b (List.mem_mergeSort.mp m)
  have e : (sortVI (us.zip nss)).map encVI = (sortL nss).map tupI := by
    have e1 : (sortVI (us.zip nss)).map encVI = ((sortVI (us.zip nss)).map (·.2)).map tupI := by rw [List.map_map]; rfl
    rw [e1, sortVI_snd, zip_snd l]
  rw [e] at z
  exact z
def doorNext (ps : List Pi) (row : List Int) : Pl := nm ps (row.getD 0 0) (if row.getD 1 0 = 0 then 1 else row.getD 1 0 - 1)
def besideL (ps : List Pi) : Pl → List Pl
  | [r] => (doorsTo ps r ps.length).map (doorNext ps)
  | [i, a] => [nm ps i (a - 1), nm ps i (a + 1)]
  | _ => []
theorem nm_ne (ps : List Pi) (i t : Int) : nm ps i t ≠ [] := by
  unfold nm
  split
  · intro z; cases z
  · split <;> (intro z; cases z)
end Rw

namespace Rw
open PySem PySem.Spec PyProof.Rows L2
end Rw

namespace Rw
/-! ### which places are next to one: two lists, one arrangement -/
section
variable {n : Int} {ps : List Pi} {d : Int → Int → Int} (T : Tm n ps d)
include T
/-! besideL -/
theorem mem_beside {p q : Pl} (ok : okP n ps p) : q ∈ besideL ps p ↔ Adj ps p q := by
  rcases ok_cases ok with ⟨r, rfl, r0, r1⟩ | ⟨i, b, rfl, h0, h1, b0, b1⟩
  · show q ∈ (doorsTo ps r ps.length).map (doorNext ps) ↔ _
    constructor
    · intro m
      obtain ⟨row, mr, rfl⟩ := List.mem_map.mp m
      obtain ⟨j, jl, h⟩ := mem_doors.mp mr
      have l1 := (T.at (i := (j : Int)) (by omega) (by omega)).2.2.2.2
      rcases h with ⟨e, rfl⟩ | ⟨e, rfl⟩
      · exact ⟨(j : Int), 0, by omega, by omega, by omega, by omega, .inl ⟨by rw [nm_0, e], rfl⟩⟩
      · refine ⟨(j : Int), (pr ps (j : Int)).l - 1, by omega, by omega, by omega, by omega, .inr ⟨?_, by rw [show (pr ps (j : Int)).l - 1 + 1 = (pr ps (j : Int)).l by omega, nm_l (by omega), e]⟩⟩
        show nm ps (j : Int) (if (pr ps (j : Int)).l = 0 then 1 else (pr ps (j : Int)).l - 1) = _
        rw [if_neg (by omega)]
    · rintro ⟨j, a, j0, j1, a0, a1, h⟩
      have ej : ((j.toNat : Nat) : Int) = j := by omega
      rcases h with ⟨e1, rfl⟩ | ⟨rfl, e1⟩
      · rcases nm_one e1.symm with ⟨z, ex⟩ | ⟨z, _⟩
        · subst z
          exact List.mem_map.mpr ⟨[j, 0, (pr ps j).y, (pr ps j).l], mem_doors.mpr ⟨j.toNat, by omega, .inl (by rw [ej]; exact ⟨ex, rfl⟩)⟩, rfl⟩
        · omega
      · rcases nm_one e1.symm with ⟨z, _⟩ | ⟨z, ey⟩
        · omega
        · refine List.mem_map.mpr ⟨[j, (pr ps j).l, (pr ps j).x, 0], mem_doors.mpr ⟨j.toNat, by omega, .inr (by rw [ej]; exact ⟨ey, rfl⟩)⟩, ?_⟩
          show nm ps j (if (pr ps j).l = 0 then 1 else (pr ps j).l - 1) = nm ps j a
          rw [if_neg (by omega), show (pr ps j).l - 1 = a by omega]
  · show q ∈ [nm ps i (b - 1), nm ps i (b + 1)] ↔ _
    have pe : nm ps i b = [i, b] := nm_mid (by omega) (by omega)
    constructor
    · intro m
      rcases List.mem_cons.mp m with rfl | m
      · exact ⟨i, b - 1, h0, h1, by omega, by omega, .inr ⟨rfl, by rw [show b - 1 + 1 = b by omega, pe]⟩⟩
      · rw [List.mem_singleton.mp m]
        exact ⟨i, b, h0, h1, by omega, by omega, .inl ⟨pe.symm, rfl⟩⟩
    · intro h
      rcases near_mid T b0 b1 h with rfl | rfl
      · exact List.mem_cons_self
      · exact List.mem_cons_of_mem _ List.mem_cons_self
theorem doors_nodup (r : Int) (r0 : 0 ≤ r) (r1 : r < n) : ∀ m : Nat, m ≤ ps.length → ((doorsTo ps r m).map (doorNext ps)).Nodup
  | 0, _ => by unfold doorsTo; simp
  | m + 1, hm => by
    have ih := doors_nodup r r0 r1 m (by omega)
    obtain ⟨x0, x1, y0, y1, l1⟩ := T.at (i := (m : Int)) (by omega) (by omega)
    have o := (T.own (i := (m : Int)) (by omega) (by omega)).2.2
    rw [doorsTo_succ, List.map_append]
    have old : ∀ q ∈ (doorsTo ps r m).map (doorNext ps), AdjTo ps (m : Int) 0 [r] q := fun q hq => by
      obtain ⟨row, mr, rfl⟩ := List.mem_map.mp hq
      obtain ⟨j, jl, h⟩ := mem_doors.mp mr
      have l2 := (T.at (i := (j : Int)) (by omega) (by omega)).2.2.2.2
      rcases h with ⟨e, rfl⟩ | ⟨e, rfl⟩
      · exact ⟨(j : Int), 0, by omega, .inl ⟨by omega, by omega, by omega⟩, .inl ⟨by rw [nm_0, e], rfl⟩⟩
      · refine ⟨(j : Int), (pr ps (j : Int)).l - 1, by omega, .inl ⟨by omega, by omega, by omega⟩, .inr ⟨?_, by rw [show (pr ps (j : Int)).l - 1 + 1 = (pr ps (j : Int)).l by omega, nm_l (by omega), e]⟩⟩
        show nm ps (j : Int) (if (pr ps (j : Int)).l = 0 then 1 else (pr ps (j : Int)).l - 1) = _
        rw [if_neg (by omega)]
    have far : ∀ (a : Int) (q : Pl), 0 ≤ a → a < (pr ps (m : Int)).l → (([r] = nm ps (m : Int) a ∧ q = nm ps (m : Int) (a + 1)) ∨ (q = nm ps (m : Int) a ∧ [r] = nm ps (m : Int) (a + 1))) → q ∉ (doorsTo ps r m).map (doorNext ps) := fun a q a0 a1 hq mem => by
      obtain ⟨j, b, j0, h | h, rr⟩ := old q mem
      · have z := step_one T (i := (m : Int)) (a := a) (j := j) (b := b) (by omega) (by omega) a0 a1 j0 (by omega) h.2.1 h.2.2 (by
          rcases hq with ⟨u1, u2⟩ | ⟨u1, u2⟩ <;> rcases rr with ⟨v1, v2⟩ | ⟨v1, v2⟩
          · exact .inl ⟨u1.symm.trans v1, u2.symm.trans v2⟩
          · exact .inr ⟨u1.symm.trans v2, u2.symm.trans v1⟩
          · exact .inr ⟨u1.symm.trans v2, u2.symm.trans v1⟩
          · exact .inl ⟨u1.symm.trans v1, u2.symm.trans v2⟩)
        omega
      · omega
    unfold doorRow
    by_cases ex : (pr ps (m : Int)).x = r
    · have ey : ¬ (pr ps (m : Int)).y = r := fun z => o (by rw [ex, z])
      rw [if_pos ex, if_neg ey, List.append_nil]
      refine List.nodup_append.mpr ⟨ih, by simp, fun a ha b hb z => ?_⟩
      rw [List.mem_singleton.mp hb] at z
      exact far 0 (doorNext ps [(m : Int), 0, (pr ps (m : Int)).y, (pr ps (m : Int)).l]) (by omega) (by omega) (.inl ⟨by rw [nm_0, ex], rfl⟩) (z ▸ ha)
    · by_cases ey : (pr ps (m : Int)).y = r
      · rw [if_neg ex, if_pos ey, List.nil_append]
        refine List.nodup_append.mpr ⟨ih, by simp, fun a ha b hb z => ?_⟩
        rw [List.mem_singleton.mp hb] at z
        have en : doorNext ps [(m : Int), (pr ps (m : Int)).l, (pr ps (m : Int)).x, 0] = nm ps (m : Int) ((pr ps (m : Int)).l - 1) := by
          show nm ps (m : Int) (if (pr ps (m : Int)).l = 0 then 1 else (pr ps (m : Int)).l - 1) = _
          rw [if_neg (by omega)]
        exact far ((pr ps (m : Int)).l - 1) _ (by omega) (by omega) (.inr ⟨en, by rw [show (pr ps (m : Int)).l - 1 + 1 = (pr ps (m : Int)).l by omega, nm_l (by omega), ey]⟩) (z ▸ ha)
      · rw [if_neg ex, if_neg ey]
        simp only [List.append_nil, List.map_nil]
        exact ih
theorem beside_nodup {p : Pl} (ok : okP n ps p) : (besideL ps p).Nodup := by
  rcases ok_cases ok with ⟨r, rfl, r0, r1⟩ | ⟨i, b, rfl, h0, h1, b0, b1⟩
  · exact doors_nodup T r r0 r1 ps.length (Nat.le_refl _)
  · show [nm ps i (b - 1), nm ps i (b + 1)].Nodup
    refine List.nodup_cons.mpr ⟨fun m => ?_, by simp⟩
    have := nm_inj T h0 h1 (by omega) (by omega) (by omega) (by omega) (List.mem_singleton.mp m)
    omega
end
theorem perm_of {α : Type} [DecidableEq α] {l m : List α} (hl : l.Nodup) (hm : m.Nodup) (h : ∀ x, x ∈ l ↔ x ∈ m) : l.Perm m := by
  rw [List.perm_iff_count]
  intro a
  rw [hl.count, hm.count]
  by_cases e : a ∈ l
  · rw [if_pos e, if_pos ((h a).mp e)]
  · rw [if_neg e, if_neg (fun z => e ((h a).mpr z))]
theorem leI_trans (a b c : List Int) (h1 : leI a b = true) (h2 : leI b c = true) : leI a c = true := by
  unfold leI at *
  simp only [Bool.not_eq_true', decide_eq_false_iff_not] at *
  exact List.le_trans (l₁ := a) (l₂ := b) (l₃ := c) h1 h2
theorem leI_total (a b : List Int) : (leI a b || leI b a) = true := by
  unfold leI
  by_cases h : b < a
  · have : ¬ a < b := List.lt_asymm h
    simp [h, this]
  · simp [h]
theorem leI_anti (a b : List Int) (h1 : leI a b = true) (h2 : leI b a = true) : a = b := by
  unfold leI at *
  simp only [Bool.not_eq_true', decide_eq_false_iff_not] at *
  exact List.le_antisymm h1 h2
theorem sortL_perm {l m : List (List Int)} (h : l.Perm m) : sortL l = sortL m := by
  have p : (sortL l).Perm (sortL m) := (List.mergeSort_perm l leI).trans (h.trans (List.mergeSort_perm m leI).symm)
  exact List.Perm.eq_of_pairwise (fun a b _ _ h1 h2 => leI_anti a b h1 h2) (List.pairwise_mergeSort leI_trans leI_total l) (List.pairwise_mergeSort leI_trans leI_total m) p
end Rw

namespace Rw
open PySem PySem.Spec PyProof.Rows L2
theorem eqv_ints : ∀ p q : List Int, PyData.eqvAll (p.map .int) (q.map .int) = decide (p = q)
  | [], [] => by simp [PyData.eqvAll]
  | [], _ :: _ => by simp [PyData.eqvAll]
  | _ :: _, [] => by simp [PyData.eqvAll]
  | a :: p, b :: q => by
    rw [List.map_cons, List.map_cons]
    simp only [PyData.eqvAll, PyData.eqv, eqv_ints p q]
    rw [Bool.eq_iff_iff]
    simp
theorem eqv_tupI (p q : List Int) : PyData.eqv (tupI p) (tupI q) = decide (p = q) := by
  show PyData.eqv (.tuple (p.map .int)) (.tuple (q.map .int)) = _
  simp only [PyData.eqv, eqv_ints]
theorem tupI_shaped (p : List Int) : SeqAt.shaped (tupI p) = true := by
  refine shaped_of ?_ ?_
  · show PyData.canLay0 (.tuple (p.map .int)) = true
    simp only [PyData.canLay0, tupI_lay p]
  · have : PyData.depth (.tuple (p.map .int)) ≤ 64 := by simp [PyData.depth, tupI_depths p]
    exact this
theorem tupI_dp {K : PySem.W.Frag} {av : List Addr} {H : Hp} {v : V} {p : List Int} (h : Dt av H v (tupI p)) : L2.Dp K H v (tupI p) := by
  refine Dt.dp _ _ h ?_
  show PyData.canLay0 (.tuple (p.map .int)) = true
  simp only [PyData.canLay0, tupI_lay p]
end Rw

namespace Rw
open PySem PySem.Spec PyProof.Rows L2
/-! ### the place so many steps on: where it is looked for -/
def cnd (ps : List Pi) (d : Int → Int → Int) (p : Pl) (i st : Int) : List Int :=
  if p.headD 0 = i ∧ p.length = 2 then [p.getD 1 0 + st, p.getD 1 0 - st] else [st - Dp ps d p [(pr ps i).x], (pr ps i).l - st + Dp ps d p [(pr ps i).y]]
section Pure
variable {n : Int} {ps : List Pi} {d : Int → Int → Int} (T : Tm n ps d)
include T
theorem step_there {p q : Pl} (hp : okP n ps p) (hq : okP n ps q) : ∀ (k : Nat) {st : Int}, 0 ≤ st → st ≤ Dp ps d p q → (Dp ps d p q - st).toNat = k → ∃ z, okP n ps z ∧ Dp ps d p z = st ∧ Dp ps d z q = Dp ps d p q - st
  | 0, st, s0, s1, hk => ⟨q, hq, by omega, by rw [Dp_self T hq]; omega⟩
  | k + 1, st, s0, s1, hk => by
    obtain ⟨z, oz, e1, e2⟩ := step_there hp hq k (st := st + 1) (by omega) (by omega) (by omega)
    have S := T.places hp
    have ne : z ≠ p := fun w => by rw [w, Dp_self T hp] at e1; omega
    obtain ⟨u, w, ⟨a, rfl⟩, e3⟩ := S.par z oz ne
    have ou := S.cl z u 1 oz ⟨a, rfl⟩
    have t1 := Dp_le T ou oz hq
    have t2 := Dp_le T hp ou hq
    have e4 : Dp ps d u z = 1 := by
      have S2 := T.places ou
      rcases S2.step u z 1 ou ⟨a.symm, rfl⟩ with h | h
      · rw [Dp_self T ou] at h; omega
      · have := S2.nn z oz
        rw [Dp_self T ou] at h; omega
    exact ⟨u, ou, by omega, by omega⟩
theorem cnd_has {p z : Pl} (hp : okP n ps p) (hz : okP n ps z) (hn : 2 ≤ n) (hl : (ps.length : Int) = n - 1) {st : Int} (e : Dp ps d p z = st) : ∃ i : Nat, i < ps.length ∧ ∃ a ∈ cnd ps d p (i : Int) st, 0 ≤ a ∧ a ≤ (pr ps (i : Int)).l ∧ nm ps (i : Int) a = z := by
  have self : ∀ {j b : Int}, 0 ≤ j → j < ps.length → 1 ≤ b → b ≤ (pr ps j).l - 1 → ∀ {a : Int}, 0 ≤ a → a ≤ (pr ps j).l → Dp ps d [j, b] (nm ps j a) = st → a ∈ cnd ps d [j, b] j st := fun {j b} j0 j1 b0 b1 {a} a0 a1 h => by
    have e1 : nm ps j b = [j, b] := (if_neg (by omega)).trans (if_neg (by omega))
    have e2 := nm_dist T j0 j1 (a := b) (b := a) (by omega) (by omega) a0 a1
    rw [e1, h] at e2
    unfold cnd
    rw [if_pos ⟨rfl, rfl⟩]
    unfold ab at e2
    show a ∈ [b + st, b - st]
    split at e2
    · exact List.mem_cons.mpr (.inl (by omega))
    · exact List.mem_cons.mpr (.inr (List.mem_singleton.mpr (by omega)))
  have other : ∀ {i : Int}, 0 ≤ i → i < ps.length → ¬ (p.headD 0 = i ∧ p.length = 2) → ∀ {a : Int}, 0 ≤ a → a ≤ (pr ps i).l → Dp ps d p (nm ps i a) = st → a ∈ cnd ps d p i st := fun {i} i0 i1 hne {a} a0 a1 h => by
    unfold cnd
    rw [if_neg hne]
    obtain ⟨f0, f1, f2, f⟩ := foot_at T hp i0 i1
    have l1 := (T.at i0 i1).2.2.2.2
    have nx : nm ps i 0 = [(pr ps i).x] := if_pos rfl
    have ny : nm ps i (pr ps i).l = [(pr ps i).y] := (if_neg (by omega)).trans (if_pos rfl)
    have ea := f a a0 a1
    have cs : foot ps d p i = 0 ∨ foot ps d p i = (pr ps i).l := by
      by_cases c1 : 0 < foot ps d p i
      · by_cases c2 : foot ps d p i < (pr ps i).l
        · exact absurd (by rw [f2 c1 c2]; exact ⟨rfl, rfl⟩) hne
        · exact .inr (by omega)
      · exact .inl (by omega)
    rcases cs with z | z
    · rw [z, nx, h] at ea
      have : ab a 0 = a := by unfold ab; split <;> omega
      exact List.mem_cons.mpr (.inl (by omega))
    · rw [z, ny, h] at ea
      have : ab a (pr ps i).l = (pr ps i).l - a := by unfold ab; split <;> omega
      exact List.mem_cons.mpr (.inr (List.mem_singleton.mpr (by omega)))
  have both : ∀ {i : Int}, 0 ≤ i → i < ps.length → ∀ {a : Int}, 0 ≤ a → a ≤ (pr ps i).l → Dp ps d p (nm ps i a) = st → a ∈ cnd ps d p i st := fun {i} i0 i1 {a} a0 a1 h => by
    by_cases c : p.headD 0 = i ∧ p.length = 2
    · rcases ok_cases hp with ⟨r, rfl, r0, r1⟩ | ⟨j, b, rfl, j0, j1, b0, b1⟩
      · exact absurd c.2 (show ¬ (1 = 2) by decide)
      · have : j = i := c.1
        subst this
        exact self j0 j1 b0 b1 a0 a1 h
    · exact other i0 i1 c a0 a1 h
  rcases ok_cases hz with ⟨r, rfl, r0, r1⟩ | ⟨i, a, rfl, i0, i1, a0, a1⟩
  · obtain ⟨s, s0, s1, ne⟩ : ∃ s : Int, 0 ≤ s ∧ s < n ∧ s ≠ r := by
      by_cases c : r = 0
      · exact ⟨1, by omega, by omega, by omega⟩
      · exact ⟨0, by omega, by omega, fun z => c z.symm⟩
    obtain ⟨i, p', gi, hp'⟩ := T.par s r s0 s1 r0 r1 ne
    have hi : i < ps.length := (List.getElem?_eq_some_iff.mp gi).1
    have epr := pr_of gi
    have l1 := (T.at (i := (i : Int)) (by omega) (by omega)).2.2.2.2
    have nx : nm ps (i : Int) 0 = [(pr ps (i : Int)).x] := if_pos rfl
    have ny : nm ps (i : Int) (pr ps (i : Int)).l = [(pr ps (i : Int)).y] := (if_neg (by omega)).trans (if_pos rfl)
    rcases hp' with ⟨h1, _⟩ | ⟨h1, _⟩
    · have ez : nm ps (i : Int) 0 = [r] := by rw [nx, epr, h1]
      exact ⟨i, hi, 0, both (by omega) (by omega) (by omega) (by omega) (by rw [ez]; exact e), by omega, by omega, ez⟩
    · have ez : nm ps (i : Int) (pr ps (i : Int)).l = [r] := by rw [ny, epr, h1]
      exact ⟨i, hi, _, both (by omega) (by omega) (by omega) (by omega) (by rw [ez]; exact e), by omega, by omega, ez⟩
  · have e1 : nm ps i a = [i, a] := (if_neg (by omega)).trans (if_neg (by omega))
    refine ⟨i.toNat, by omega, a, ?_, by omega, ?_, ?_⟩ <;> rw [show ((i.toNat : Nat) : Int) = i by omega]
    · exact both i0 i1 (by omega) (by omega) (by rw [e1]; exact e)
    · omega
    · exact e1
end Pure
@[elab_as_elim] theorem gen2 {α β : Type} {P : α → β → Prop} (a : α) (b : β) (h : ∀ x y, x = a → y = b → P x y) : P a b := h a b rfl rfl
end Rw

namespace Rw
section
variable {n : Int} {ps : List Pi} {d : Int → Int → Int} (T : Tm n ps d)
include T
theorem adj_by1 {p q : Pl} (hp : okP n ps p) (a : Adj ps p q) : Dp ps d p q = 1 := by
  have st := Dp_step T hp a
  have nn := Dp_nn T hp (ok_adj T a)
  rw [Dp_self T hp] at st
  rcases st with z | z <;> omega
/-! of three places one lies between each two -/
theorem mid_ex {p r : Pl} (hp : okP n ps p) (hr : okP n ps r) : ∀ (k : Nat) (q : Pl), okP n ps q → (Dp ps d p q).toNat = k → ∃ m, okP n ps m ∧ Btw ps d p q m ∧ Btw ps d p r m ∧ Btw ps d q r m
  | 0, q, hq, e => by
    have nn := Dp_nn T hp hq
    have z := Dp_eq0 T hp hq (by omega)
    subst z
    exact ⟨p, hp, (btw_refl T hp hp).1, (btw_refl T hp hr).1, (btw_refl T hp hr).1⟩
  | k + 1, q, hq, e => by
    have ne : q ≠ p := fun z => by rw [z, Dp_self T hp] at e; cases e
    obtain ⟨u, au, eu⟩ := Dp_par T hp hq ne
    have hu := ok_adj T au
    obtain ⟨m, hm, b1, b2, b3⟩ := mid_ex hp hr k u hu (by omega)
    have b1' : Dp ps d p m + Dp ps d m u = Dp ps d p u := b1
    have b2' : Dp ps d p m + Dp ps d m r = Dp ps d p r := b2
    have b3' : Dp ps d u m + Dp ps d m r = Dp ps d u r := b3
    have s1 := Dp_sym T hu hm
    have s2 := Dp_sym T hq hm
    have s3 := Dp_sym T hq hr
    have s4 := Dp_sym T hu hr
    have s5 := Dp_sym T hm hr
    have o1 := adj_by1 T hq au
    have o2 := Dp_sym T hq hu
    rcases Dp_step T hr au with z | z
    · -- q is nearer than u
      by_cases c : m = u
      · subst c
        refine ⟨q, hq, (btw_refl T hp hq).2, ?_, (btw_refl T hq hr).1⟩
        show Dp ps d p q + Dp ps d q r = Dp ps d p r
        omega
      · exfalso
        obtain ⟨x, ax, ex⟩ := Dp_par T hm hu (Ne.symm c)
        have hx := ok_adj T ax
        have s6 := Dp_sym T hx hr
        have s7 := Dp_sym T hm hx
        have t1 := Dp_le T hx hm hr
        have t2 := Dp_le T hp hm hx
        have stx := Dp_step T hr ax
        have s8 := Dp_sym T hp hu
        have exr : Dp ps d r u = Dp ps d r x + 1 := by rcases stx with w | w <;> omega
        have equ : x = q := Dp_uni T hr hu ax au.symm exr z
        subst equ
        omega
    · -- u is nearer
      have t1 := Dp_le T hq hu hm
      have t2 := Dp_le T hq hm hr
      have t3 := Dp_le T hp hm hq
      refine ⟨m, hm, ?_, b2, ?_⟩
      · show Dp ps d p m + Dp ps d m q = Dp ps d p q
        omega
      · show Dp ps d q m + Dp ps d m r = Dp ps d q r
        omega
theorem mid_of {p q r : Pl} (hp : okP n ps p) (hq : okP n ps q) (hr : okP n ps r) : ∃ k : Int, Dp ps d p q + Dp ps d p r - Dp ps d q r = 2 * k ∧ 0 ≤ k ∧ k ≤ Dp ps d p q ∧ k ≤ Dp ps d p r ∧
    ∀ z, okP n ps z → Dp ps d p z = k → Dp ps d z q = Dp ps d p q - k → Dp ps d z r = Dp ps d p r - k ∧ Btw ps d p r z ∧ Btw ps d q r z := by
  obtain ⟨m, hm, b1, b2, b3⟩ := mid_ex T hp hr _ q hq rfl
  have b1' : Dp ps d p m + Dp ps d m q = Dp ps d p q := b1
  have b2' : Dp ps d p m + Dp ps d m r = Dp ps d p r := b2
  have b3' : Dp ps d q m + Dp ps d m r = Dp ps d q r := b3
  have s1 := Dp_sym T hq hm
  have n1 := Dp_nn T hp hm
  have n2 := Dp_nn T hm hq
  have n3 := Dp_nn T hm hr
  refine ⟨Dp ps d p m, by omega, n1, by omega, by omega, fun z hz e1 e2 => ?_⟩
  have ez : z = m := btw_one T hp hz hm _ q hq rfl (show Dp ps d p z + Dp ps d z q = Dp ps d p q by omega) b1 e1
  subst ez
  exact ⟨by omega, b2, b3⟩
end
end Rw

namespace Rw
section
variable {n : Int} {ps : List Pi} {d : Int → Int → Int} (T : Tm n ps d)
include T
theorem rooms_row {s M : Int} (s0 : 0 ≤ s) (s1 : s < n) (hM : ∀ p ∈ ps, p.l ≤ M) (hM0 : 0 ≤ M) : ∀ (k : Nat) (t : Int), 0 ≤ t → t < n → (d s t).toNat < k → ∃ F : List Int, F.Nodup ∧ (∀ x ∈ F, 0 ≤ x ∧ x < n ∧ d s x ≤ d s t) ∧ d s t + M ≤ M * F.length
  | 0, t, _, _, e => absurd e (Nat.not_lt_zero _)
  | k + 1, t, t0, t1, e => by
    by_cases c : s = t
    · subst c
      refine ⟨[s], by simp, fun x hx => by rw [List.mem_singleton.mp hx]; exact ⟨s0, s1, Int.le_refl _⟩, ?_⟩
      rw [T.zero]
      show 0 + M ≤ M * ((1 : Nat) : Int)
      omega
    · obtain ⟨i, p, gp, h⟩ := T.par s t s0 s1 t0 t1 c
      have mp := List.mem_of_getElem? gp
      obtain ⟨x0, x1, y0, y1, l1⟩ := T.ok p mp
      have lM := hM p mp
      obtain ⟨u, u0, u1, eu⟩ : ∃ u, 0 ≤ u ∧ u < n ∧ d s u + p.l = d s t := by
        rcases h with ⟨_, h⟩ | ⟨_, h⟩
        · exact ⟨p.y, y0, y1, h⟩
        · exact ⟨p.x, x0, x1, h⟩
      have nnu : 0 ≤ d s u := by
        by_cases z : s = u
        · subst z; rw [T.zero]; exact Int.le_refl 0
        · have := T.pos s u s0 s1 u0 u1 z; omega
      obtain ⟨F, f1, f2, f3⟩ := rooms_row s0 s1 hM hM0 k u u0 u1 (by omega)
      refine ⟨t :: F, List.nodup_cons.mpr ⟨fun m => ?_, f1⟩, fun x hx => ?_, ?_⟩
      · have := (f2 t m).2.2
        omega
      · rcases List.mem_cons.mp hx with rfl | m
        · exact ⟨t0, t1, Int.le_refl _⟩
        · obtain ⟨a, b, c'⟩ := f2 x m
          exact ⟨a, b, by omega⟩
      · rw [List.length_cons]
        have : M * ((F.length + 1 : Nat) : Int) = M * F.length + M := by
          rw [Int.natCast_add]; show M * ((F.length : Int) + 1) = _; rw [Int.mul_add, Int.mul_one]
        omega
theorem rooms_far {s t : Int} (hn : n ≤ 16) (hM : ∀ p ∈ ps, p.l ≤ 1000000000000) (s0 : 0 ≤ s) (s1 : s < n) (t0 : 0 ≤ t) (t1 : t < n) : d s t ≤ 15000000000000 := by
  obtain ⟨F, f1, f2, f3⟩ := rooms_row T s0 s1 hM (by omega) _ t t0 t1 (Nat.lt_succ_self _)
  have := pigeon 16 F f1 (fun x hx => by have := f2 x hx; omega)
  omega
theorem places_far {p q : Pl} (hn : n ≤ 16) (hM : ∀ p ∈ ps, p.l ≤ 1000000000000) (hp : okP n ps p) (hq : okP n ps q) : Dp ps d p q ≤ 17000000000000 := by
  have room : ∀ z, okP n ps z → ∃ r, 0 ≤ r ∧ r < n ∧ Dp ps d z [r] ≤ 1000000000000 := fun z hz => by
    rcases ok_cases hz with ⟨r, rfl, r0, r1⟩ | ⟨i, a, rfl, h0, h1, a0, a1⟩
    · exact ⟨r, r0, r1, by rw [Dp_self T hz]; omega⟩
    · have l1 := hM _ (pr_mem h0 h1).1
      have z2 := Dp_same T h0 h1 a0 a1 (d := d) 0
      rw [nm_0] at z2
      obtain ⟨x0, x1, _⟩ := T.ok _ (pr_mem h0 h1).1
      refine ⟨(pr ps i).x, x0, x1, ?_⟩
      rw [z2]
      unfold ab
      split <;> omega
  obtain ⟨r, r0, r1, e1⟩ := room p hp
  obtain ⟨t, t0, t1, e2⟩ := room q hq
  have okr : okP n ps [r] := ⟨r0, r1⟩
  have okt : okP n ps [t] := ⟨t0, t1⟩
  have t1' := Dp_le T hp okr hq
  have t2' := Dp_le T okr okt hq
  have s1 := Dp_sym T hq okt
  have rf := rooms_far T hn hM r0 r1 t0 t1
  have rr : Dp ps d [r] [t] = d r t := rfl
  omega
end
end Rw

namespace Rw
open PySem PySem.Spec PyProof.Rows L2
/-! ### defs that are called where nothing is being shown: they may show lists -/
structure FnG (P : Program) (w : World) (K : PySem.W.Frag) (mg : Str → Option Value) (base : Heap) (CX : CXT) (k : Nat) (f : Addr) (fd : FuncData) (ps : List Str) (sp : Sp) : Prop where
  ln : ∀ vs H Q E, sp vs H Q E → vs.length = ps.length
  go : ∀ (A : Around) (out : List Env) (s : Shared) (H : Hp) (ar : Args) (us : List Value) (vs : List V) (Q : VK) (E : XK), Room k A → A.guards = some [] → Env0 P w K mg base A out s H → BindsTo s fd ar (ps.zip us) → Vals vs us → sp vs H Q E → codeAny (model P w) A (.call (.ref f) ar) (CR CX out P w H s Q E) s
section
variable {P : Program} {w : World} {K : PySem.W.Frag} {mg : Str → Option Value} {base : Heap}
theorem fnG_of {CX : CXT} {f : Addr} {x q : Str} {st : Stmt} {fd : FuncData} {N ps : List Str} {k : Nat} {sp : Sp} (F : Fun K x q st f fd) (S : FnScope N ps (defScope st)) (ln : ∀ vs H Q E, sp vs H Q E → vs.length = ps.length)
    (body : ∀ (cdv : Value) (A : Around) (out : List Env) (s : Shared) (H : Hp) (vs : List V) (Q : VK) (E : XK), Room k (A.deeper (envOfC q (defScope st) s.heap.objs.size f cdv)) → A.guards = some [] → sp vs H Q E →
      ∃ t, PSs (cxOf CX P w K mg base N q (defScope st) f cdv A out s H E) (defBody st) t ∧ t { nx := fun _ H' => Q .non H', rt := Q } (L2.start N vs) H) : FnG P w K mg base CX (k + 1) f fd ps sp := by
  obtain ⟨oc, od, kV, doc, pm, an, cdv, ct, osl, rfl, lk, hcd⟩ := F.ex
  refine ⟨ln, fun A out s H ar us vs Q E room hg e0 hb r hsp => ?_⟩
  have KX : K.In s.heap := e0.mod.kin.keeps (fun b o e => (e0.bs b o e).1)
  have lim : s.heap.NoLimit := e0.mod.nolimit.keeps (fun b o e => (e0.bs b o e).1)
  have kinds : ∀ z ∈ ps.zip us, (defScope st).names.lookup z.1 = some .local ∨ ((defScope st).names.lookup z.1 = some .cell ∧ ((cellsFrom (s.heap.objs.size + 1) (defScope st).names []).lookup z.1).isSome = true) := fun ⟨n, v⟩ hz => by
    rcases S.par n (List.of_mem_zip hz).1 with g | g
    · exact Or.inl g
    · exact Or.inr ⟨g, PySem.W.cellsFrom_some _ _ _ (.inl g)⟩
  refine codeAny_call_function room.depth (KX _ _ lk) rfl S.co S.gen rfl (PySem.W.codeRec_of KX hcd) (hb _ _ _ _ (wpAny_newFunctionEnv_cells S.kind kinds fun env he s1 ic => ?_))
  subst he
  refine ⟨lim.keeps ic.toInCall.keep, codeAny_func ?_⟩
  obtain ⟨t, ht, hq⟩ := body cdv A out s H vs Q E (room.deeper _) hg hsp
  have I : Inv (cxOf CX P w K mg base N q (defScope st) f cdv A out s H E) [] (L2.start N vs) H s1 := inv_start S room.hd e0 (ln _ _ _ _ hsp) r ic
  refine wpAny_mono (ht.run [] s1 (L2.start N vs) H _ I hq) (fun fl s2 hs => ?_) fun e s2 hs => hs
  cases fl with
  | ret u2 =>
    obtain ⟨v2, σ2, H2, J, rv, z⟩ := hs
    exact ⟨v2, H2, J.os, J.bare, J.base, J.hok, rv, z⟩
  | next =>
    obtain ⟨σ2, H2, J, z⟩ := hs
    exact ⟨V.non, H2, J.os, J.bare, J.base, J.hok, rfl, z⟩
  | brk =>
    obtain ⟨_, _, _, z⟩ := hs
    exact False.elim z
  | cont =>
    obtain ⟨_, _, _, z⟩ := hs
    exact False.elim z
end
def CanG (P : Program) (w : World) (K : PySem.W.Frag) (mg : Str → Option Value) (base : Heap) (x : Str) (ps : List Str) (k : Nat) (sp : Sp) : Prop :=
  ∃ f fd, FnG P w K mg base CX0 k f fd ps sp ∧ mg x = some (.ref f) ∧ PySem.W.keepIn K (.ref f) = true ∧ Binds K fd ps []
theorem pe_canG {X : Cx} {x : Str} {ps : List Str} {k : Nat} {sp : Sp} {e : Expr} {es : List Expr} {t : TA} {p pos : Pos} (C : CanG X.prog X.w X.K X.mg X.base x ps k sp) (hr : Room k X.A) (hgu : X.A.guards = some []) (hg : Gl X x)
    (ha : PA X (e :: es) t) (hdb : (x == ("__debug__" : Str)) = false := by decide) (he : starEach (e :: es) X.env = (false, eval e X.env) :: starEach es X.env := by rfl) (hpl : (backTo pos (starEach es X.env)).any (·.1) = false := by rfl) :
    PE X (.Call (.Name x p) (e :: es) [] pos) (tCall sp [] E0 t) := by
  obtain ⟨f, fd, F, gm, kp, b⟩ := C
  refine ⟨fun pn s0 σ H Q I h => wpAny_Call_Name_kw (ld_glob I hg gm (PySem.W.callWith_K (h₀ := X.base) I.ok.mod.kin kp (thn (ha.run pos pn s0 σ H _ I h) fun us s1 hh => ?_) he hpl) hdb)⟩
  obtain ⟨vs, H1, I1, r, q⟩ := hh
  rw [List.append_nil] at q
  have hl : (us ++ []).length = ps.length := by rw [List.append_nil, ← r.length]; exact F.ln _ _ _ _ q
  have bt := b s1 us I1.kIn hl
  rw [List.append_nil] at bt
  refine ⟨I1.kIn, wpAny_call (codeAny_mono (F.go X.A X.stack s1 H1 ⟨us, []⟩ us vs Q E0 hr hgu I1.env0 bt r q) fun z s2 hz => ?_)⟩
  match z, hz with
  | .ok (.ret u), hz => exact I1.after hz
  | .ok .next, hz => exact False.elim hz
  | .ok .brk, hz => exact False.elim hz
  | .ok .cont, hz => exact False.elim hz
  | .error _, hz => exact False.elim hz
/-! ### defs that may let an error out -/
def CanX (P : Program) (w : World) (K : PySem.W.Frag) (mg : Str → Option Value) (base : Heap) (x : Str) (ps : List Str) (k : Nat) (sp : Sp) : Prop :=
  ∃ f fd, FnOk P w K mg base (L2.CX P w) k f fd ps sp ∧ mg x = some (.ref f) ∧ PySem.W.keepIn K (.ref f) = true ∧ Binds K fd ps []
/-! called in a def that lets the same out -/
theorem pe_canX {X : Cx} {E : XK} {x : Str} {ps : List Str} {k : Nat} {sp : Sp} {e : Expr} {es : List Expr} {t : TA} {p pos : Pos} (C : CanX X.prog X.w X.K X.mg X.base x ps k sp) (hr : Room k X.A) (tk : Takes X (fun cls d _ H => E cls d H)) (hg : Gl X x)
    (ha : PA X (e :: es) t) (hdb : (x == ("__debug__" : Str)) = false := by decide) (he : starEach (e :: es) X.env = (false, eval e X.env) :: starEach es X.env := by rfl) (hpl : (backTo pos (starEach es X.env)).any (·.1) = false := by rfl) :
    PE X (.Call (.Name x p) (e :: es) [] pos) (tCall sp [] E t) := by
  obtain ⟨f, fd, F, gm, kp, b⟩ := C
  exact pe_call F hr hg gm kp b .nil (passes_call tk fun _ _ _ _ z => z) ha hdb he hpl
/-! called in a try -/
theorem pe_canT {X : Cx} {W : WX} {x : Str} {ps : List Str} {k : Nat} {sp : Sp} {e : Expr} {es : List Expr} {t : TA} {p pos : Pos} (C : CanX X.prog X.w X.K X.mg X.base x ps k sp) (hr : Room k X.A) (tk : Takes X W) (hg : Gl X x)
    (ha : PA X (e :: es) t) (hdb : (x == ("__debug__" : Str)) = false := by decide) (he : starEach (e :: es) X.env = (false, eval e X.env) :: starEach es X.env := by rfl) (hpl : (backTo pos (starEach es X.env)).any (·.1) = false := by rfl) :
    PE X (.Call (.Name x p) (e :: es) [] pos) (tCallS sp (WE W) t) := by
  obtain ⟨f, fd, F, gm, kp, b⟩ := C
  exact pe_callS F hr hg gm kp b (fun σ => passAt tk σ) ha hdb he hpl
end Rw

namespace Rw
open PySem PySem.Spec PyProof.Rows L2 TL
/-! ### repr of anything small, an empty dict too -/
structure Shw (d : PyData) : Prop where
  sh : d.showable = true
  dp : d.depth ≤ 60
  ln : d.shown.length ≤ 100000
  ly : d.canLay0 = true ∨ d = .dict []
theorem Sw.shw {k n : Nat} {d : PyData} (h : Sw k n d) (hk : k ≤ 60) (hn : n ≤ 100000) : Shw d := ⟨h.sh, Nat.le_trans h.dp hk, Nat.le_trans h.ln hn, .inl h.lay⟩
section
variable {X : Cx} {pins : List (Addr × Obj)} {σ : L2.St} {H : Hp} {s : Shared} {av : List Addr}
theorem no_dict_told (I : Inv X pins σ H s) {v : V} {u : Value} (h : Dt av H v (.dict [])) (r : RelV v u) : ∃ as, Reads s.heap u (.dict []) as ∧ sysModules ∉ as := by
  cases h with
  | dct na e =>
    cases r
    obtain ⟨_, nsm, vs, kv, o, es, ep, ho, ex, hd, _, pr, _⟩ := I.hok _ _ e
    cases kv
    have e0 : es.toList = [] := by
      cases hq : es.toList with
      | nil => rfl
      | cons y ys => rw [hq] at pr; cases pr
    refine ⟨_, .dict (kvs := []) ho ex.1 hd (as := []) (bs := []) (by rw [e0]; exact .nil) (by rw [e0]; exact .nil), fun q => ?_⟩
    simp only [List.append_nil, List.mem_cons, List.not_mem_nil, or_false] at q
    rw [← q] at nsm
    exact absurd nsm (by decide)
end
section
variable {X : Cx}
def rReprA : List V → Hp → VK → Prop := fun xs H Q => ∃ (v : V) (d : PyData) (av : List Addr), xs = [v] ∧ Dt av H v d ∧ Shw d ∧ Q (.str d.shown) H
theorem cr_reprA (hg : X.A.guards = some []) (hu : X.A.units + 70 < cLine) : CallR X (.builtin "repr") rReprA := by
  intro pins s σ H xs us Q I r h
  obtain ⟨v, d, av, rfl, hd, sw, q⟩ := h
  obtain ⟨u, rfl, ru⟩ := vals1 r
  have e1 := sw.dp
  have e2 := sw.ln
  have e3 := sw.sh
  have sz : (100000 : Nat) ≤ sizeLine := by decide
  have big : ∀ {a : Addr}, v = .ref a → wpAny (model X.prog X.w) X.A (call (.builtin "repr") [u]) (EP X pins σ Q) X.xe s := fun {a} ev => by
    subst ev
    rcases sw.ly with ly | rfl
    · obtain ⟨as, rd⟩ := Dp.reads I d _ _ (Dt.dp d _ hd ly) ru
      cases ru
      exact repr_of_reads' rd e3 (PyData.noDict_hsm (PyData.hasDict_of_canLay d ly)) hg (by omega) (fun _ _ e => e) (fun h' t tk k => ⟨.str d.shown, H, I.kept (t' := tk) k, ⟨t, rfl⟩, q⟩) (by omega)
    · obtain ⟨as, rd, na⟩ := no_dict_told I hd ru
      cases ru
      exact repr_of_reads' rd e3 (fun _ => na) hg (by omega) (fun _ _ e => e) (fun h' t tk k => ⟨.str _, H, I.kept (t' := tk) k, ⟨t, rfl⟩, q⟩) (by omega)
  cases hd with
  | non => cases ru; rw [PyData.shown_none] at q; exact PySem.P.repr_of_none ⟨.str _, H, I.tok _, ⟨_, rfl⟩, q⟩
  | bl b => cases ru; rw [PyData.shown_bool] at q; exact PySem.P.repr_of_bool ⟨.str _, H, I.tok _, ⟨_, rfl⟩, by cases b <;> exact q⟩
  | int i =>
    obtain ⟨t, rfl⟩ := ru
    rw [PyData.shown_int] at q
    exact PySem.P.repr_of_int (by simpa only [PyData.showable, decide_eq_true_eq] using e3) ⟨.str _, H, I.tok _, ⟨_, rfl⟩, q⟩
  | str x =>
    obtain ⟨t, rfl⟩ := ru
    rw [PyData.shown_str] at q e2
    exact PySem.P.repr_of_str ⟨.str _, H, I.tok _, ⟨_, rfl⟩, q⟩ (by omega)
  | lst _ _ _ => exact big rfl
  | tup _ _ _ => exact big rfl
  | dct _ _ => exact big rfl
end
theorem units70m {k : Nat} {A : Around} {h : Option Value} (r : Room k A) : (A.mark h).units + 70 < cLine := by have := r.un; show A.units + 70 < cLine; omega
end Rw

namespace Rw
open PySem PySem.Spec PyProof.Rows L2
theorem shw_pl {n : Int} {ps : List Pi} {p : Pl} (hk : HouseOk n ps) (h : okP n ps p) : Shw (tupI p) := by
  have n16 := hk.n2
  have ln := hk.len
  refine (Sw.tup (k := 0) (n := 16) (m := 2) (fun d m => ?_) ?_).shw (by decide) (by decide)
  · obtain ⟨i, mi, rfl⟩ := List.mem_map.mp m
    rcases ok_cases h with ⟨r, rfl, r0, r1⟩ | ⟨j, a, rfl, j0, j1, a0, a1⟩
    · rw [List.mem_singleton.mp mi]; exact Sw.int r0 (by omega)
    · have l2 := (hk.ok _ (pr_mem j0 j1).1).fit.l2
      rcases List.mem_cons.mp mi with rfl | mi
      · exact Sw.int j0 (by omega)
      · rw [List.mem_singleton.mp mi]; exact Sw.int (by omega) (by omega)
  · rw [List.length_map]
    rcases ok_cases h with ⟨r, rfl, r0, r1⟩ | ⟨j, a, rfl, j0, j1, a0, a1⟩
    · exact show 1 ≤ 2 by decide
    · exact Nat.le_refl 2
theorem same_pl {n : Int} {ps : List Pi} {d : Int → Int → Int} (T : Tm n ps d) {x y z z' : Pl} {k : Int} (hx : okP n ps x) (hy : okP n ps y) (hz : okP n ps z) (hz' : okP n ps z') (h1 : Dp ps d x z = k) (h2 : Dp ps d z y = Dp ps d x y - k) (h3 : Dp ps d x z' = k) (h4 : Dp ps d z' y = Dp ps d x y - k) : z = z' :=
  btw_one T hx hz hz' _ y hy rfl (by unfold Btw; omega) (by unfold Btw; omega) (by omega)
theorem Apt.keep {H G : Hp} {Fd D : Addr} {n : Int} {d : Int → Int → Int} (h : Apt H Fd n d) (ne : Fd ≠ D) (k : Keep [D] H G) : Apt G Fd n d := by
  obtain ⟨kvs, e, v⟩ := h
  exact ⟨kvs, k _ _ e (fun m => ne (List.mem_singleton.mp m)), v⟩
end Rw

namespace Rw
/-! ### what bars a leg: flaps and narrow places on the row that is gone along -/
def At (n : Int) (ps : List Pi) (d : Int → Int → Int) (p q z : Pl) (y : Int) : Prop := okP n ps z ∧ Dp ps d p z = y ∧ Dp ps d z q = Dp ps d p q - y
def ShB (ps : List Pi) (l i b e g : Int) (x : List Int) : Prop := ∃ a w : Int, (a, w) ∈ (pr ps i).fl ∧ ((b ≤ a ∧ a < e ∧ w = -1 ∧ x = [max 0 (g + a - b - l), 0, i, a]) ∨ (e ≤ a ∧ a < b ∧ w = 1 ∧ x = [max 0 (g + b - a - 1 - l), 0, i, a]))
def StB (na kk : List (Int × Int)) (b e g : Int) (x : List Int) : Prop := ∃ (a w : Int) (num : Nat) (ah sz : Int), (a, w) ∈ na ∧ (b ≤ a ∧ a ≤ e ∨ e ≤ a ∧ a ≤ b) ∧ kk[num]? = some (ah, sz) ∧ w < sz ∧ x = [g + ab b a - 1 - ah, 1, (num : Int)]
def PB (ps : List Pi) (l : Int) (kk : List (Int × Int)) (c : List Int) (g : Int) (x : List Int) : Prop := ∃ i b e : Int, c = [i, b, e] ∧ (ShB ps l i b e g x ∨ StB (pr ps i).na kk b e g x)
def BarF (n : Int) (ps : List Pi) (d : Int → Int → Int) (p q : Pl) (y i a : Int) : Prop := 0 ≤ i ∧ i < ps.length ∧ 0 ≤ a ∧ a < (pr ps i).l ∧ (((a, -1) ∈ (pr ps i).fl ∧ At n ps d p q (nm ps i a) y ∧ At n ps d p q (nm ps i (a + 1)) (y + 1)) ∨ ((a, 1) ∈ (pr ps i).fl ∧ At n ps d p q (nm ps i (a + 1)) y ∧ At n ps d p q (nm ps i a) (y + 1)))
def BarN (n : Int) (ps : List Pi) (d : Int → Int → Int) (p q : Pl) (y w : Int) : Prop := ∃ i a : Int, 0 ≤ i ∧ i < ps.length ∧ (a, w) ∈ (pr ps i).na ∧ At n ps d p q [i, a] y
def Bar (n : Int) (ps : List Pi) (d : Int → Int → Int) (p q : Pl) (l : Int) (kk : List (Int × Int)) (x : List Int) : Prop :=
  (∃ y i a : Int, BarF n ps d p q y i a ∧ x = [max 0 (y - l), 0, i, a]) ∨ ∃ (y w : Int) (num : Nat) (ah sz : Int), BarN n ps d p q y w ∧ kk[num]? = some (ah, sz) ∧ w < sz ∧ x = [y - 1 - ah, 1, (num : Int)]
theorem row_in {ps : List Pi} : ∀ {r : List (List Int)} {y : Int}, (∀ c ∈ r, PcOk ps c) → 0 ≤ y → y ≤ ptot r → r ≠ [] → ∃ (j : Nat) (i b e k : Int), r[j]? = some [i, b, e] ∧ 0 ≤ k ∧ k ≤ ab b e ∧ y = ptot (r.take j) + k
  | [], _, _, _, _, ne => absurd rfl ne
  | c :: r, y, hc, y0, y1, _ => by
    obtain ⟨i, b, e, rfl, _⟩ := hc c List.mem_cons_self
    have pl : plen [i, b, e] = ab b e := rfl
    have pt : ptot ([i, b, e] :: r) = plen [i, b, e] + ptot r := rfl
    by_cases h : y ≤ ab b e
    · exact ⟨0, i, b, e, y, rfl, y0, h, by show y = 0 + y; omega⟩
    · have ne : r ≠ [] := fun z => by
        subst z
        have : ptot [] = 0 := rfl
        omega
      obtain ⟨j, i', b', e', k, g, k0, k1, ey⟩ := row_in (r := r) (y := y - ab b e) (fun c m => hc c (List.mem_cons_of_mem _ m)) (by omega) (by omega) ne
      refine ⟨j + 1, i', b', e', k, g, k0, k1, ?_⟩
      show y = plen [i, b, e] + ptot (r.take j) + k
      omega
theorem row_edge {ps : List Pi} : ∀ {r : List (List Int)} {y : Int}, (∀ c ∈ r, PcOk ps c) → 0 ≤ y → y < ptot r → ∃ (j : Nat) (i b e k : Int), r[j]? = some [i, b, e] ∧ 0 ≤ k ∧ k + 1 ≤ ab b e ∧ y = ptot (r.take j) + k
  | [], y, _, y0, y1 => by
    have : ptot [] = 0 := rfl
    omega
  | c :: r, y, hc, y0, y1 => by
    obtain ⟨i, b, e, rfl, _⟩ := hc c List.mem_cons_self
    have pl : plen [i, b, e] = ab b e := rfl
    have pt : ptot ([i, b, e] :: r) = plen [i, b, e] + ptot r := rfl
    by_cases h : y + 1 ≤ ab b e
    · exact ⟨0, i, b, e, y, rfl, y0, h, by show y = 0 + y; omega⟩
    · obtain ⟨j, i', b', e', k, g, k0, k1, ey⟩ := row_edge (r := r) (y := y - ab b e) (fun c m => hc c (List.mem_cons_of_mem _ m)) (by omega) (by omega)
      refine ⟨j + 1, i', b', e', k, g, k0, k1, ?_⟩
      show y = plen [i, b, e] + ptot (r.take j) + k
      omega
theorem pat_up {i b e a : Int} (h1 : b ≤ a) (h2 : a ≤ e) : pat [i, b, e] (a - b) = a := by
  show (if b < e then b + (a - b) else b - (a - b)) = a
  split <;> omega
theorem pat_dn {i b e a : Int} (h1 : e ≤ a) (h2 : a ≤ b) : pat [i, b, e] (b - a) = a := by
  show (if b < e then b + (b - a) else b - (b - a)) = a
  split <;> omega
section
variable {n : Int} {ps : List Pi} {d : Int → Int → Int} (T : Tm n ps d)
include T
theorem At.same {p q z z' : Pl} {y : Int} (hp : okP n ps p) (hq : okP n ps q) (h : At n ps d p q z y) (h' : At n ps d p q z' y) : z = z' := same_pl T hp hq h.1 h'.1 h.2.1 h.2.2 h'.2.1 h'.2.2
theorem At.turn {p q z : Pl} {y : Int} (hp : okP n ps p) (hq : okP n ps q) (h : At n ps d p q z y) : At n ps d q p z (Dp ps d p q - y) := by
  have s1 := Dp_sym T hp hq
  have s2 := Dp_sym T hp h.1
  have s3 := Dp_sym T hq h.1
  obtain ⟨o, h1, h2⟩ := h
  exact ⟨o, by omega, by omega⟩
theorem chn_at {p q : Pl} {r : List (List Int)} (h : Chn ps p r q) : ∀ (hq : okP n ps q) (ht : ptot r = Dp ps d p q) {j : Nat} {i b e k : Int}, r[j]? = some [i, b, e] → 0 ≤ k → k ≤ ab b e → At n ps d p q (nm ps i (pat [i, b, e] k)) (ptot (r.take j) + k) := by
  induction h with
  | nil p => intro hq ht j i b e k g; cases g
  | @cons c r q ok h ih =>
    intro hq ht j i' b' e' k g k0 k1
    have okr := chn_ok T h hq
    have le := chn_le T h hq
    obtain ⟨i, b, e, rfl, h0, h1, b0, b1, e0, e1⟩ := ok
    have okp : okP n ps (nm ps i b) := ok_nm T h0 h1 b0 b1
    have ed : Dp ps d (nm ps i b) (nm ps i e) = ab b e := nm_dist T h0 h1 b0 b1 e0 e1
    have okr' : okP n ps (nm ps i e) := okr
    have le' : Dp ps d (nm ps i e) q ≤ ptot r := le
    have t := Dp_le T okp okr' hq
    have pt : ptot ([i, b, e] :: r) = ab b e + ptot r := rfl
    have ht' : ab b e + ptot r = Dp ps d (nm ps i b) q := ht
    have er : ptot r = Dp ps d (nm ps i e) q := by omega
    show At n ps d (nm ps i b) q _ _
    cases j with
    | zero =>
      cases g
      obtain ⟨z1, z2, z3⟩ := pat_in T h0 h1 b0 b1 e0 e1 k0 k1
      have t1 := Dp_le T z1 okr' hq
      have t2 := Dp_le T okp z1 hq
      refine ⟨z1, ?_, ?_⟩
      · rw [z2]; show k = 0 + k; omega
      · show _ = _ - (0 + k); omega
    | succ j =>
      obtain ⟨z1, z2, z3⟩ := ih hq er (j := j) g k0 k1
      have z2' : Dp ps d (nm ps i e) (nm ps i' (pat [i', b', e'] k)) = ptot (r.take j) + k := z2
      have z3' : Dp ps d (nm ps i' (pat [i', b', e'] k)) q = Dp ps d (nm ps i e) q - (ptot (r.take j) + k) := z3
      have t1 := Dp_le T okp okr' z1
      have t2 := Dp_le T okp z1 hq
      have ep : ptot (List.take (j + 1) ([i, b, e] :: r)) = ab b e + ptot (r.take j) := rfl
      refine ⟨z1, by omega, by omega⟩
theorem bar_iff (hk : HouseOk n ps) {p q : Pl} {r : List (List Int)} {l : Int} {kk : List (Int × Int)} {x : List Int} (ch : Chn ps p r q) (hp : okP n ps p) (hq : okP n ps q) (ht : ptot r = Dp ps d p q) (ne : r ≠ []) :
    (∃ (j : Nat) (c : List Int), r[j]? = some c ∧ PB ps l kk c (ptot (r.take j)) x) ↔ Bar n ps d p q l kk x := by
  have pcs := chn_pcs ch
  constructor
  · rintro ⟨j, c, gc, i, b, e, rfl, h⟩
    obtain ⟨i2, b2, e2, ec, i0, i1, b0, b1, e0, e1⟩ := pcs _ (List.mem_of_getElem? gc)
    cases ec
    have fit := (hk.ok _ (pr_mem i0 i1).1).fit
    have at' := fun {k : Int} (k0 : 0 ≤ k) (k1 : k ≤ ab b e) => chn_at T ch hq ht gc k0 k1
    rcases h with ⟨a, w, m, h⟩ | ⟨a, w, num, ah, sz, m, h, gk, lt, rfl⟩
    · have fi := fit.fin _ m
      rcases h with ⟨h1, h2, rfl, rfl⟩ | ⟨h1, h2, rfl, rfl⟩
      · have ae : ab b e = e - b := by unfold ab; split <;> omega
        have x1 := at' (k := a - b) (by omega) (by omega)
        have x2 := at' (k := a + 1 - b) (by omega) (by omega)
        rw [pat_up h1 (by omega)] at x1
        rw [pat_up (by omega) (by omega)] at x2
        exact .inl ⟨_, i, a, ⟨i0, i1, by omega, by omega, .inl ⟨m, x1, by rw [show ptot (r.take j) + (a - b) + 1 = ptot (r.take j) + (a + 1 - b) by omega]; exact x2⟩⟩, by rw [show ptot (r.take j) + (a - b) - l = ptot (r.take j) + a - b - l by omega]⟩
      · have ae : ab b e = b - e := by unfold ab; split <;> omega
        have x1 := at' (k := b - (a + 1)) (by omega) (by omega)
        have x2 := at' (k := b - a) (by omega) (by omega)
        rw [pat_dn (by omega) (by omega)] at x1
        rw [pat_dn (by omega) (by omega)] at x2
        exact .inl ⟨_, i, a, ⟨i0, i1, by omega, by omega, .inr ⟨m, x1, by rw [show ptot (r.take j) + (b - (a + 1)) + 1 = ptot (r.take j) + (b - a) by omega]; exact x2⟩⟩, by rw [show ptot (r.take j) + (b - (a + 1)) - l = ptot (r.take j) + b - a - 1 - l by omega]⟩
    · have fi := fit.nin _ m
      have em : nm ps i a = [i, a] := nm_mid (by omega) (by omega)
      refine .inr ⟨_, w, num, ah, sz, ⟨i, a, i0, i1, m, ?_⟩, gk, lt, rfl⟩
      rcases h with ⟨h1, h2⟩ | ⟨h1, h2⟩
      · have x1 := at' (k := a - b) (by omega) (by unfold ab; split <;> omega)
        rw [pat_up h1 h2, em] at x1
        rw [show ab b a = a - b by unfold ab; split <;> omega]; exact x1
      · have x1 := at' (k := b - a) (by omega) (by unfold ab; split <;> omega)
        rw [pat_dn h1 h2, em] at x1
        rw [show ab b a = b - a by unfold ab; split <;> omega]; exact x1
  · have inn : ∀ {z : Pl} {y : Int}, At n ps d p q z y → 0 ≤ y ∧ y ≤ ptot r := fun {z y} h => by
      have h1 := Dp_nn T hp h.1
      have h2 := Dp_nn T h.1 hq
      obtain ⟨_, e1, e2⟩ := h
      exact ⟨by omega, by omega⟩
    rintro (⟨y, i, a, ⟨i0, i1, a0, a1, h⟩, rfl⟩ | ⟨y, w, num, ah, sz, ⟨i, a, i0, i1, m, h⟩, gk, lt, rfl⟩)
    · have edge : ∀ {u v : Pl}, At n ps d p q u y → At n ps d p q v (y + 1) → ∃ (j : Nat) (i b e k : Int), r[j]? = some [i, b, e] ∧ 0 ≤ k ∧ k + 1 ≤ ab b e ∧ y = ptot (r.take j) + k ∧ u = nm ps i (pat [i, b, e] k) ∧ v = nm ps i (pat [i, b, e] (k + 1)) := fun {u v} hu hv => by
        obtain ⟨j, i', b', e', k, g, k0, k1, ey⟩ := row_edge pcs (inn hu).1 (by have := (inn hv).2; omega)
        have x1 := chn_at T ch hq ht g k0 (by omega)
        have x2 := chn_at T ch hq ht g (k := k + 1) (by omega) k1
        rw [← ey] at x1
        rw [show ptot (r.take j) + (k + 1) = y + 1 by omega] at x2
        exact ⟨j, i', b', e', k, g, k0, k1, ey, hu.same T hp hq x1, hv.same T hp hq x2⟩
      rcases h with ⟨m, h1, h2⟩ | ⟨m, h1, h2⟩
      · obtain ⟨j, i', b', e', k, g, k0, k1, ey, eu, ev⟩ := edge h1 h2
        obtain ⟨i2, b2, e2, ec, j0, j1, b0, b1, e0, e1⟩ := pcs _ (List.mem_of_getElem? g)
        cases ec
        refine ⟨j, _, g, i', b', e', rfl, .inl ⟨a, -1, ?_⟩⟩
        by_cases c : b' < e'
        · have p1 : pat [i', b', e'] k = b' + k := if_pos c
          have p2 : pat [i', b', e'] (k + 1) = b' + k + 1 := (show pat [i', b', e'] (k + 1) = b' + (k + 1) from if_pos c).trans (by omega)
          have ae : ab b' e' = e' - b' := if_pos c
          rw [p1] at eu; rw [p2] at ev
          obtain ⟨ei, ea⟩ := step_one T i0 i1 a0 a1 j0 j1 (by omega) (by omega) (.inl ⟨eu, ev⟩)
          subst ei
          exact ⟨m, .inl ⟨by omega, by omega, rfl, by rw [ey, show ptot (r.take j) + k - l = ptot (r.take j) + a - b' - l by omega]⟩⟩
        · have p1 : pat [i', b', e'] k = (b' - k - 1) + 1 := (show pat [i', b', e'] k = b' - k from if_neg c).trans (by omega)
          have p2 : pat [i', b', e'] (k + 1) = b' - k - 1 := (show pat [i', b', e'] (k + 1) = b' - (k + 1) from if_neg c).trans (by omega)
          have ae : ab b' e' = b' - e' := if_neg c
          rw [p1] at eu; rw [p2] at ev
          obtain ⟨ei, ea⟩ := step_one T i0 i1 a0 a1 j0 j1 (by omega) (by omega) (.inr ⟨eu, ev⟩)
          subst ei
          rw [ea] at eu
          exact absurd eu (nm_next T i0 i1 (by omega) (by omega))
      · obtain ⟨j, i', b', e', k, g, k0, k1, ey, eu, ev⟩ := edge h1 h2
        obtain ⟨i2, b2, e2, ec, j0, j1, b0, b1, e0, e1⟩ := pcs _ (List.mem_of_getElem? g)
        cases ec
        refine ⟨j, _, g, i', b', e', rfl, .inl ⟨a, 1, ?_⟩⟩
        by_cases c : b' < e'
        · have p1 : pat [i', b', e'] k = b' + k := if_pos c
          have p2 : pat [i', b', e'] (k + 1) = b' + k + 1 := (show pat [i', b', e'] (k + 1) = b' + (k + 1) from if_pos c).trans (by omega)
          have ae : ab b' e' = e' - b' := if_pos c
          rw [p1] at eu; rw [p2] at ev
          obtain ⟨ei, ea⟩ := step_one T i0 i1 a0 a1 j0 j1 (by omega) (by omega) (.inr ⟨ev, eu⟩)
          subst ei
          rw [ea] at eu
          exact absurd eu.symm (nm_next T i0 i1 (by omega) (by omega))
        · have p1 : pat [i', b', e'] k = (b' - k - 1) + 1 := (show pat [i', b', e'] k = b' - k from if_neg c).trans (by omega)
          have p2 : pat [i', b', e'] (k + 1) = b' - k - 1 := (show pat [i', b', e'] (k + 1) = b' - (k + 1) from if_neg c).trans (by omega)
          have ae : ab b' e' = b' - e' := if_neg c
          rw [p1] at eu; rw [p2] at ev
          obtain ⟨ei, ea⟩ := step_one T i0 i1 a0 a1 j0 j1 (by omega) (by omega) (.inl ⟨ev, eu⟩)
          subst ei
          exact ⟨m, .inr ⟨by omega, by omega, rfl, by rw [ey, show ptot (r.take j) + k - l = ptot (r.take j) + b' - a - 1 - l by omega]⟩⟩
    · obtain ⟨j, i', b', e', k, g, k0, k1, ey⟩ := row_in pcs (inn h).1 (inn h).2 ne
      have x1 := chn_at T ch hq ht g k0 k1
      rw [← ey] at x1
      have ez := h.same T hp hq x1
      obtain ⟨ei, ea, _⟩ := nm_two ez.symm
      subst ei
      refine ⟨j, _, g, i', b', e', rfl, .inr ⟨a, w, num, ah, sz, m, ?_, gk, lt, ?_⟩⟩
      · have ep : pat [i', b', e'] k = if b' < e' then b' + k else b' - k := rfl
        rw [ea] at ep
        unfold ab at k1
        split at ep <;> split at k1 <;> omega
      · have ep : pat [i', b', e'] k = if b' < e' then b' + k else b' - k := rfl
        rw [ea] at ep
        have : ab b' a = k := by
          unfold ab at k1 ⊢
          split at ep <;> split at k1 <;> split <;> omega
        rw [this, ← ey]
end
end Rw

namespace Rw
open PySem PySem.Spec PyProof.Rows L2
/-! ### the knots as the dragged end has them -/
def kfb (l e : Int) (ks : List (Int × Int)) : List (Int × Int) := if e = 1 then ks.map fun k => (l - k.1, k.2) else ks
theorem prD_at {av : List Addr} {H : Hp} {v : V} {p : Int × Int} (h : Dt av H v (prD p)) : ∃ a, v = .ref a ∧ a ∉ av ∧ H a = some (.tup [.int p.1, .int p.2]) := by
  obtain ⟨bb, ys, rfl, na, ebb, dbb⟩ := tup_at (show Dt av H v (.tuple [.int p.1, .int p.2]) from h)
  have hys : ys = [.int p.1, .int p.2] := Dts.unints (ns := [p.1, p.2]) dbb
  subst hys
  exact ⟨bb, rfl, na, ebb⟩
/-! ### what a thing is, told ahead -/
def Ev (t : TE) (σ : L2.St) (H : Hp) (v : V) : Prop := ∀ Q : VK, Q v H → t σ H Q
theorem chain_and {ta tb tc td tf : TE} {σ : L2.St} {H : Hp} {Q : Bool → Hp → Prop} {p q : Int → Int → Bool} {x y z u v : Int} {r : Bool} (a : Ev ta σ H (.int x)) (b : Ev tb σ H (.int y)) (c : Ev tc σ H (.int z)) (d : Ev td σ H (.int u)) (f : Ev tf σ H (.int v))
    (e : (p x y && q y z && decide (u = v)) = r) (h : Q r H) : tAnd (tTest (tChain (rI0 fun i j => V.bl (p i j)) (rI0 fun i j => V.bl (q i j)) ta tb tc)) (tTest (tOp rEq td tf)) σ H Q := by
  subst e
  refine a _ (b _ ⟨x, y, rfl, rfl, _, rfl, ?_⟩)
  cases hp : p x y with
  | false =>
    rw [hp] at h
    exact iteF ⟨_, rfl, iteF h⟩
  | true =>
    rw [hp] at h
    refine iteT (c _ ⟨y, z, rfl, rfl, _, rfl, ?_⟩)
    cases hq : q y z with
    | false =>
      rw [hq] at h
      exact iteF h
    | true =>
      rw [hq] at h
      refine iteT (d _ (f _ ⟨rfl, _, rfl, ?_⟩))
      rw [show decide (V.int u = V.int v) = decide (u = v) from decide_eq_decide.mpr ⟨V.int.inj, congrArg _⟩]
      exact h
theorem chain_or {ta tb tc td tf tg : TE} {σ : L2.St} {H : Hp} {Q : Bool → Hp → Prop} {p q p' q' : Int → Int → Bool} {x y z x' y' z' : Int} {r : Bool} (a : Ev ta σ H (.int x)) (b : Ev tb σ H (.int y)) (c : Ev tc σ H (.int z)) (d : Ev td σ H (.int x')) (f : Ev tf σ H (.int y')) (g : Ev tg σ H (.int z'))
    (e : (p x y && q y z || p' x' y' && q' y' z') = r) (h : Q r H) : tOr (tTest (tChain (rI0 fun i j => V.bl (p i j)) (rI0 fun i j => V.bl (q i j)) ta tb tc)) (tTest (tChain (rI0 fun i j => V.bl (p' i j)) (rI0 fun i j => V.bl (q' i j)) td tf tg)) σ H Q := by
  subst e
  have two : (p x y && q y z) = false → tTest (tChain (rI0 fun i j => V.bl (p' i j)) (rI0 fun i j => V.bl (q' i j)) td tf tg) σ H Q := fun e => by
    rw [e] at h
    refine d _ (f _ ⟨x', y', rfl, rfl, _, rfl, ?_⟩)
    cases hp : p' x' y' with
    | false =>
      rw [hp] at h
      exact iteF ⟨_, rfl, h⟩
    | true =>
      rw [hp] at h
      exact iteT (g _ ⟨y', z', rfl, rfl, _, rfl, h⟩)
  refine a _ (b _ ⟨x, y, rfl, rfl, _, rfl, ?_⟩)
  cases hp : p x y with
  | false => exact iteF ⟨_, rfl, iteF (two (by rw [hp]; rfl))⟩
  | true =>
    refine iteT (c _ ⟨y, z, rfl, rfl, _, rfl, ?_⟩)
    cases hq : q y z with
    | false => exact iteF (two (by rw [hp, hq]; rfl))
    | true =>
      rw [hp, hq] at h
      exact iteT h
theorem of_nx {f : L2.St → Hp → Prop} {r : VK} {b c : L2.St → Hp → Prop} {σ : L2.St} {H : Hp} (h : f σ H) : tNext { nx := f, rt := r, bk := b, ct := c } σ H := h
theorem ifs_and {ta tb tc td tf : TE} {σ : L2.St} {H : Hp} {D : Ends} {t s : TS} {p q : Int → Int → Bool} {x y z u v : Int} {r : Bool} (a : Ev ta σ H (.int x)) (b : Ev tb σ H (.int y)) (c : Ev tc σ H (.int z)) (d : Ev td σ H (.int u)) (f : Ev tf σ H (.int v))
    (e : (p x y && q y z && decide (u = v)) = r) (h : if r = true then t D σ H else s D σ H) : tIfS (tAnd (tTest (tChain (rI0 fun i j => V.bl (p i j)) (rI0 fun i j => V.bl (q i j)) ta tb tc)) (tTest (tOp rEq td tf))) t s D σ H := chain_and a b c d f e h
theorem tr_one {G : Hp} {W : Addr} {o : HO} (e : G W = some o) : Tr [W] G := fun a m => ⟨o, by cases List.mem_singleton.mp m; exact e⟩
theorem mx0 (j : Int) : (if j > 0 then j else 0) = max 0 j := by
  split <;> omega
section
variable {P : Program} {w : World} {K : PySem.W.Frag} {mg : Str → Option Value} {base : Heap}
abbrev sKFB : Stmt := topS 30
abbrev nKFB : List Str := ["rope", "end", "length", "knots", "behind", "size"]
theorem scKFB : FnScope nKFB ["rope", "end"] (defScope sKFB) := ⟨rfl, rfl, rfl, by decide +kernel, rfl, by decide +kernel, by decide +kernel⟩
def spKFB : Sp := fun vs H Q _ => ∃ (v : V) (l e : Int) (ks : List (Int × Int)), vs = [v, .int e] ∧ Dt [] H v (ropeD l ks) ∧ ks.length ≤ 4 ∧
  ∀ (H' : Hp) (L : Addr) (us : List V), Keep [] H H' → H L = none → H' L = some (.lst us) → Dts [] H' us ((kfb l e ks).map prD) → Q (.ref L) H'
theorem ok_kFB (h : Has K mg "knots_from_behind" sKFB) (B : Blt mg) (cH : ∃ t, mg "HEAD" = some (.int 1 t)) : Can P w K mg base "knots_from_behind" ["rope", "end"] 1 spKFB := by
  obtain ⟨f, fd, F, g⟩ := h
  refine ⟨f, fd, F.ok (k := 0) scKFB (fun vs H Q E h => ?_) (fun cdv A outer s H vs Q E hr h => ?_), g, F.kp, F.binds fun _ _ _ _ _ _ us hl => match us, hl with | [_, _], _ => rfl⟩
  · obtain ⟨v, l, e, ks, rfl, _⟩ := h
    rfl
  · obtain ⟨v, l, e, ks, rfl, dr, l4, q⟩ := h
    refine ⟨_, pss_cons (ps_asg (pv 0) (pg_tup (by rfl) (pgs_cons (pg_name (i := 2) scKFB.nd rfl (by first | exact Or.inl rfl | exact Or.inr rfl)) (pgs_cons (pg_name (i := 3) scKFB.nd rfl (by first | exact Or.inl rfl | exact Or.inr rfl)) pgs_nil))))
      (pss_cons (ps_if (pt_cmpR op_eq (pv 1) (pe_glob (v := .int 1) rfl cH.choose_spec ⟨_, rfl⟩) (nomark _)) (pss_one (ps_ret (pe_lc (own := [("behind", 4), ("size", 5)]) (tt := tYes) rfl scKFB.nd (pi_tup (pv 3)) (blkOk_by (N := nKFB) (sc := defScope sKFB) (by decide +kernel)) (fun _ _ _ _ _ => (pg_tupK (K := K) (n := 2) rfl (by rfl) (pgs_cons (pg_name (i := 4) scKFB.nd rfl (by first | exact Or.inl rfl | exact Or.inr rfl)) (pgs_cons (pg_name (i := 5) scKFB.nd rfl (by first | exact Or.inl rfl | exact Or.inr rfl)) pgs_nil)))) (fun _ _ _ _ _ => pts_nil) (fun _ _ _ _ _ => (pe_tup (pa_cons (pe_op op_sub (pv 2) (pv 4)) (pa_cons (pv 5) pa_nil))))))) pss_nil)
      (pss_one (ps_ret (pe_lc (own := [("behind", 4), ("size", 5)]) (tt := tYes) rfl scKFB.nd (pi_tup (pv 3)) (blkOk_by (N := nKFB) (sc := defScope sKFB) (by decide +kernel)) (fun _ _ _ _ _ => (pg_tupK (K := K) (n := 2) rfl (by rfl) (pgs_cons (pg_name (i := 4) scKFB.nd rfl (by first | exact Or.inl rfl | exact Or.inr rfl)) (pgs_cons (pg_name (i := 5) scKFB.nd rfl (by first | exact Or.inl rfl | exact Or.inr rfl)) pgs_nil)))) (fun _ _ _ _ _ => pts_nil) (fun _ _ _ _ _ => (pe_tup (pa_cons (pv 4) (pa_cons (pv 5) pa_nil)))))))), ?_⟩
    obtain ⟨ra, ys, rfl, _, era, dra⟩ := tup_at (show Dt [] H v (.tuple [.int l, .tuple (ks.map prD)]) from dr)
    cases dra with
    | cons dl dra => cases dra with
      | cons dk dra =>
        cases dl
        cases dra
        obtain ⟨T, ku, rfl, _, eT, dku⟩ := tup_at dk
        have lku : ku.length = ks.length := by rw [dku.len, List.length_map]
        have go : ∀ f : Int → Int, ∀ W, H W = none → ∀ t y M, ku[t]? = some y → (Keep [] H M ∧ ∃ us : List V, M W = some (.lst us) ∧ us.length = t ∧ Dts [W] M us (((ks.take t).map fun k => (f k.1, k.2)).map prD)) → ∃ (bb : Addr) (k : Int × Int), y = .ref bb ∧ M bb = some (.tup [.int k.1, .int k.2]) ∧ ∀ tt, M tt = none →
            ∃ us : List V, (upd M tt (.tup [.int (f k.1), .int k.2])) W = some (.lst us) ∧ us.length < sizeLine ∧ (Keep [] H (upd (upd M tt (.tup [.int (f k.1), .int k.2])) W (.lst (us ++ [.ref tt]))) ∧ ∃ us' : List V, (upd (upd M tt (.tup [.int (f k.1), .int k.2])) W (.lst (us ++ [.ref tt]))) W = some (.lst us') ∧ us'.length = t + 1 ∧ Dts [W] (upd (upd M tt (.tup [.int (f k.1), .int k.2])) W (.lst (us ++ [.ref tt]))) us' (((ks.take (t + 1)).map fun k => (f k.1, k.2)).map prD)) := by
          intro f W nW t y M gy z
          obtain ⟨kM, us, eW, lu, du⟩ := z
          obtain ⟨dd, gd, dy⟩ := (dku.keep kM).getv t gy
          rw [List.getElem?_map] at gd
          obtain ⟨k, gk, rfl⟩ := Option.map_eq_some_iff.mp gd
          obtain ⟨bb, rfl, _, ebb⟩ := prD_at dy
          have ht := (List.getElem?_eq_some_iff.mp gk).1
          refine ⟨bb, k, rfl, ebb, fun tt ntt => ?_⟩
          have tM : Tr [W] M := tr_one eW
          obtain ⟨q1, t1, f1⟩ := tup_facts tM (ds := [.int (f k.1), .int k.2]) (.cons (.int _) (.cons (.int _) .nil)) ntt
          refine ⟨us, q1 W _ eW List.not_mem_nil, small1000 (by omega), (kM.trans q1).upd nW, us ++ [.ref tt], upd_same, by rw [List.length_append, lu]; rfl, ?_⟩
          have e : ((ks.take (t + 1)).map fun k => (f k.1, k.2)).map prD = ((ks.take t).map fun k => (f k.1, k.2)).map prD ++ [prD (f k.1, k.2)] := by rw [List.take_add_one, gk, List.map_append, List.map_append]; rfl
          rw [e]
          exact lst_step du q1.of f1
        refine ⟨.ref ra, rfl, ra, _, rfl, SqT.of era, rfl, _, _, rfl, _, [], rfl, rfl, .int e, rfl, rfl, _, rfl, ite2 (fun c => ?_) (fun c => ?_)⟩
        · have c' : e = 1 := V.int.inj (of_decide_eq_true c)
          refine ⟨.ref T, rfl, T, rfl, ⟨_, SqT.of eT⟩, fun W nW => ?_⟩
          refine lc_tup (K := K) (a := T) (xs := ku) (fun t M => Keep [] H M ∧ ∃ us : List V, M W = some (.lst us) ∧ us.length = t ∧ Dts [W] M us (((ks.take t).map fun k => (l - k.1, k.2)).map prD)) ⟨Keep.new nW, [], upd_same, rfl, .nil⟩ (fun t M _ z => SqT.of (z.1 _ _ eT List.not_mem_nil)) (fun t y M gy z => ?_) (fun M z => ?_)
          · obtain ⟨bb, k, rfl, ebb, g2⟩ := go (fun x => l - x) W nW t y M gy z
            exact ⟨bb, _, rfl, SqT.of ebb, rfl, _, _, rfl, _, [], rfl, rfl, rfl, .int l, rfl, .int k.1, rfl, _, _, rfl, rfl, .int k.2, rfl, show 2 ≤ sizeLine by decide, g2⟩
          · obtain ⟨kM, us, eW, lu, du⟩ := z
            rw [lku, List.take_length] at du
            refine q M W us kM nW eW ?_
            unfold kfb
            rw [if_pos c']
            exact du.less fun a m => absurd m List.not_mem_nil
        · have c' : ¬ e = 1 := fun z => c (decide_eq_true (by rw [z]))
          refine ⟨.ref T, rfl, T, rfl, ⟨_, SqT.of eT⟩, fun W nW => ?_⟩
          refine lc_tup (K := K) (a := T) (xs := ku) (fun t M => Keep [] H M ∧ ∃ us : List V, M W = some (.lst us) ∧ us.length = t ∧ Dts [W] M us (((ks.take t).map fun k => (k.1, k.2)).map prD)) ⟨Keep.new nW, [], upd_same, rfl, .nil⟩ (fun t M _ z => SqT.of (z.1 _ _ eT List.not_mem_nil)) (fun t y M gy z => ?_) (fun M z => ?_)
          · obtain ⟨bb, k, rfl, ebb, g2⟩ := go (fun x => x) W nW t y M gy z
            exact ⟨bb, _, rfl, SqT.of ebb, rfl, _, _, rfl, _, [], rfl, rfl, rfl, .int k.1, rfl, .int k.2, rfl, show 2 ≤ sizeLine by decide, g2⟩
          · obtain ⟨kM, us, eW, lu, du⟩ := z
            rw [lku, List.take_length] at du
            refine q M W us kM nW eW ?_
            unfold kfb
            rw [if_neg c', show ks = ks.map fun k => (k.1, k.2) from (List.map_id ks).symm]
            exact du.less fun a m => absurd m List.not_mem_nil
abbrev sShB : Stmt := topS 31
abbrev nShB : List Str := ["length", "piece", "gone", "flaps", "pipe", "begin", "stop", "bars", "at", "way"]
theorem scShB : FnScope nShB ["length", "piece", "gone", "flaps"] (defScope sShB) := ⟨rfl, rfl, rfl, by decide +kernel, rfl, by decide +kernel, by decide +kernel⟩
def spShB : Sp := fun vs H Q _ => ∃ (t T : Addr) (l i b e g : Int) (ps : List Pi), vs = [.int l, .ref t, .int g, .ref T] ∧ H t = some (.tup [.int i, .int b, .int e]) ∧ Dt [] H (.ref T) (.tuple ((pr ps i).fl.map prD)) ∧ (pr ps i).fl.length ≤ 6 ∧
  ∀ (H' : Hp) (L : Addr) (us : List V) (bs : List (List Int)), Keep [] H H' → H L = none → H' L = some (.lst us) → Dts [] H' us (bs.map tupI) → bs.length ≤ 12 → (∀ x, x ∈ bs ↔ ShB ps l i b e g x) → Q (.ref L) H'
theorem ok_shB (h : Has K mg "shut_bars" sShB) (B : Blt mg) (cS : ∃ t, mg "SHUT" = some (.int 0 t)) : Can P w K mg base "shut_bars" ["length", "piece", "gone", "flaps"] 1 spShB := by
  obtain ⟨f, fd, F, g⟩ := h
  refine ⟨f, fd, F.ok (k := 0) scShB (fun vs H Q E h => ?_) (fun cdv A outer s H vs Q E hr h => ?_), g, F.kp, F.binds fun _ _ _ _ _ _ us hl => match us, hl with | [_, _, _, _], _ => rfl⟩
  · obtain ⟨t, T, l, i, b, e, g, ps, rfl, _⟩ := h
    rfl
  · obtain ⟨t, T, l, i, b, e, g, ps, rfl, et, dT, l3, q⟩ := h
    refine ⟨_, pss_cons (ps_asg (pv 1) (pg_tup (by rfl) (pgs_cons (pg_name (i := 4) scShB.nd rfl (by first | exact Or.inl rfl | exact Or.inr rfl)) (pgs_cons (pg_name (i := 5) scShB.nd rfl (by first | exact Or.inl rfl | exact Or.inr rfl)) (pgs_cons (pg_name (i := 6) scShB.nd rfl (by first | exact Or.inl rfl | exact Or.inr rfl)) pgs_nil)))))
      (pss_cons (ps_set (i := 7) scShB.nd rfl (by first | exact Or.inl rfl | exact Or.inr rfl) (pe_lst pa_nil))
      (pss_cons (ps_for PassesOwn.never rfl (pi_tup (pv 3)) (pg_tup (by rfl) (pgs_cons (pg_name (i := 8) scShB.nd rfl (by first | exact Or.inl rfl | exact Or.inr rfl)) (pgs_cons (pg_name (i := 9) scShB.nd rfl (by first | exact Or.inl rfl | exact Or.inr rfl)) pgs_nil)))
      (pss_cons (ps_if (PW.pt (pw_and (pt_chain op_le op_lt (pv 5) (pv 8) (pv 6)) (pw_and1 (pt_cmpR op_eq (pv 9) (pe_un un_neg pe_int) (nomark _))))) (pss_one (ps_expr (pe_bm PySem.F.plainAttrs_list PySem.F.slot_list_append PySem.F.type_list_append mt_append (pv 7) (pa_cons (pe_tup (pa_cons (pe_callB (call_max2 rfl) (by rfl) B.max_ boot_max (pa_cons pe_int (pa_cons (pe_op op_sub (pe_op op_sub (pe_op op_add (pv 2) (pv 8)) (pv 5)) (pv 0)) pa_nil))) (pa_cons (pe_glob (v := .int 0) rfl cS.choose_spec ⟨_, rfl⟩) (pa_cons (pv 4) (pa_cons (pv 8) pa_nil))))) pa_nil)))) pss_nil)
      (pss_one (ps_if (PW.pt (pw_and (pt_chain op_le op_lt (pv 6) (pv 8) (pv 5)) (pw_and1 (pt_cmpR op_eq (pv 9) pe_int (nomark _))))) (pss_one (ps_expr (pe_bm PySem.F.plainAttrs_list PySem.F.slot_list_append PySem.F.type_list_append mt_append (pv 7) (pa_cons (pe_tup (pa_cons (pe_callB (call_max2 rfl) (by rfl) B.max_ boot_max (pa_cons pe_int (pa_cons (pe_op op_sub (pe_op op_sub (pe_op op_sub (pe_op op_add (pv 2) (pv 5)) (pv 8)) pe_int) (pv 0)) pa_nil))) (pa_cons (pe_glob (v := .int 0) rfl cS.choose_spec ⟨_, rfl⟩) (pa_cons (pv 4) (pa_cons (pv 8) pa_nil))))) pa_nil)))) pss_nil))))
      (pss_one (ps_ret (pv 7))))), ?_⟩
    refine ⟨.ref t, rfl, t, _, rfl, SqT.of et, rfl, _, _, rfl, _, _, rfl, _, [], rfl, rfl, show 0 ≤ sizeLine by decide, fun L nL => ?_⟩
    obtain ⟨T', ku, eTT, _, eT, dku⟩ := tup_at dT
    cases eTT
    have lku : ku.length = (pr ps i).fl.length := by rw [dku.len, List.length_map]
    have kL : Keep [] H (upd H L (.lst [])) := Keep.new nL
    have eL : (upd H L (.lst [])) L = some (.lst []) := upd_same
    generalize upd H L (.lst []) = G0 at kL eL ⊢
    refine ⟨.ref T, rfl, T, rfl, ⟨_, SqT.of (kL _ _ eT List.not_mem_nil)⟩, for_tup (K := K) (a := T) (xs := ku) (fun j σ G => ∃ (s8 s9 : Option V) (us : List V) (bs : List (List Int)), σ = [some (.int l), some (.ref t), some (.int g), some (.ref T), some (.int i), some (.int b), some (.int e), some (.ref L), s8, s9] ∧ Keep [] H G ∧ G L = some (.lst us) ∧ us.length ≤ 2 * j ∧ Dts [L] G us (bs.map tupI) ∧ bs.length ≤ 2 * j ∧ (∀ x, x ∈ bs ↔ ∃ a w : Int, (a, w) ∈ (pr ps i).fl.take j ∧ ((b ≤ a ∧ a < e ∧ w = -1 ∧ x = [max 0 (g + a - b - l), 0, i, a]) ∨ (e ≤ a ∧ a < b ∧ w = 1 ∧ x = [max 0 (g + b - a - 1 - l), 0, i, a]))))
      ⟨_, _, [], [], rfl, kL, eL, Nat.le_refl _, .nil, Nat.le_refl _, fun x => ⟨fun z => (by cases z), fun ⟨a, w, m, _⟩ => by rw [List.take_zero] at m; cases m⟩⟩ (fun j σ G _ z => ?_) (fun j y σ G gy z => ?_) (fun σ G z => ?_)⟩
    · obtain ⟨_, _, _, _, _, kG, _⟩ := z
      exact SqT.of (kG _ _ eT List.not_mem_nil)
    · obtain ⟨s8, s9, us, bs, rfl, kG, eG, lu, du, lb, hb⟩ := z
      obtain ⟨dd, gd, dy⟩ := (dku.keep kG).getv j gy
      rw [List.getElem?_map] at gd
      obtain ⟨k, gk, rfl⟩ := Option.map_eq_some_iff.mp gd
      obtain ⟨bb, rfl, _, ebb⟩ := prD_at dy
      have hj := (List.getElem?_eq_some_iff.mp gk).1
      have tk : ∀ x, x ∈ (pr ps i).fl.take (j + 1) ↔ x ∈ (pr ps i).fl.take j ∨ x = k := fun x => by
        rw [List.take_add_one, gk, List.mem_append]
        exact or_congr_right (by simp)
      refine ⟨bb, _, rfl, SqT.of ebb, rfl, _, _, rfl, _, [], rfl, rfl, ?_⟩
      have put : ∀ (M : Hp) (us : List V) (bs : List (List Int)) (x0 : List Int) (tt : Addr), Keep [] H M → M L = some (.lst us) → Dts [L] M us (bs.map tupI) → M tt = none → (upd M tt (.tup (x0.map V.int))) L = some (.lst us) ∧ Keep [] H (upd (upd M tt (.tup (x0.map V.int))) L (.lst (us ++ [.ref tt]))) ∧ Dts [L] (upd (upd M tt (.tup (x0.map V.int))) L (.lst (us ++ [.ref tt]))) (us ++ [.ref tt]) ((bs ++ [x0]).map tupI) := fun M us bs x0 tt kM eM dM ntt => by
        have tM : Tr [L] M := tr_one eM
        obtain ⟨q1, t1, f1⟩ := tup_facts tM (Dts.ints x0) ntt
        refine ⟨q1 L _ eM List.not_mem_nil, (kM.trans q1).upd nL, ?_⟩
        rw [List.map_append]
        exact lst_step dM q1.of f1
      have fin : ∀ (M : Hp) (us' : List V) (bs' : List (List Int)), Keep [] H M → M L = some (.lst us') → us'.length ≤ 2 * j + 1 → Dts [L] M us' (bs'.map tupI) → bs'.length ≤ 2 * j + 1 → (∀ x, x ∈ bs' ↔ x ∈ bs ∨ (b ≤ k.1 ∧ k.1 < e ∧ k.2 = -1 ∧ x = [max 0 (g + k.1 - b - l), 0, i, k.1]) ∨ (e ≤ k.1 ∧ k.1 < b ∧ k.2 = 1 ∧ x = [max 0 (g + b - k.1 - 1 - l), 0, i, k.1])) →
          ∃ (s8 s9 : Option V) (us : List V) (bs : List (List Int)), [some (.int l), some (.ref t), some (.int g), some (.ref T), some (.int i), some (.int b), some (.int e), some (.ref L), some (.int k.1), some (.int k.2)] = [some (.int l), some (.ref t), some (.int g), some (.ref T), some (.int i), some (.int b), some (.int e), some (.ref L), s8, s9] ∧ Keep [] H M ∧ M L = some (.lst us) ∧ us.length ≤ 2 * (j + 1) ∧ Dts [L] M us (bs.map tupI) ∧ bs.length ≤ 2 * (j + 1) ∧ (∀ x, x ∈ bs ↔ ∃ a w : Int, (a, w) ∈ (pr ps i).fl.take (j + 1) ∧ ((b ≤ a ∧ a < e ∧ w = -1 ∧ x = [max 0 (g + a - b - l), 0, i, a]) ∨ (e ≤ a ∧ a < b ∧ w = 1 ∧ x = [max 0 (g + b - a - 1 - l), 0, i, a]))) := fun M us' bs' kM eM lu' dM lb' hb' => by
        refine ⟨_, _, us', bs', rfl, kM, eM, by omega, dM, by omega, fun x => (hb' x).trans ?_⟩
        constructor
        · rintro (m | h)
          · obtain ⟨a, w, m, h⟩ := (hb x).mp m
            exact ⟨a, w, (tk _).mpr (.inl m), h⟩
          · exact ⟨k.1, k.2, (tk _).mpr (.inr rfl), h⟩
        · rintro ⟨a, w, m, h⟩
          rcases (tk _).mp m with m | m
          · exact .inl ((hb x).mpr ⟨a, w, m, h⟩)
          · have e1 : a = k.1 := congrArg Prod.fst m
            have e2 : w = k.2 := congrArg Prod.snd m
            subst e1 e2
            exact .inr h
      by_cases cA : b ≤ k.1 ∧ k.1 < e ∧ k.2 = -1
      · refine chain_and (p := fun i j => decide (i ≤ j)) (q := fun i j => decide (i < j)) (x := b) (y := k.1) (z := e) (u := k.2) (v := -1) (r := true) (fun Q h => ⟨_, rfl, h⟩) (fun Q h => ⟨_, rfl, h⟩) (fun Q h => ⟨_, rfl, h⟩) (fun Q h => ⟨_, rfl, h⟩) (fun Q h => ⟨1, rfl, h⟩) (by simp [cA]) (iteT ?_)
        refine ⟨.ref L, rfl, .inl ⟨rfl, _, SqL.of eG⟩, .int g, rfl, .int k.1, rfl, _, _, rfl, rfl, .int b, rfl, _, _, rfl, rfl, .int l, rfl, _, _, rfl, rfl, _, _, rfl, .int i, rfl, .int k.1, rfl, show 4 ≤ sizeLine by decide, fun tt ntt => ?_⟩
        rw [mx0]
        obtain ⟨p1, p2, p3⟩ := put G us bs [max 0 (g + k.1 - b - l), 0, i, k.1] tt kG eG du ntt
        refine ⟨L, us, .ref tt, rfl, rfl, p1, small1000 (by omega), ?_⟩
        refine of_nx (ifs_and (p := fun i j => decide (i ≤ j)) (q := fun i j => decide (i < j)) (x := e) (y := k.1) (z := b) (u := k.2) (v := 1) (r := false) (fun Q h => ⟨_, rfl, h⟩) (fun Q h => ⟨_, rfl, h⟩) (fun Q h => ⟨_, rfl, h⟩) (fun Q h => ⟨_, rfl, h⟩) (fun Q h => h) (by simp [cA]) (iteF ?_))
        refine fin _ _ (bs ++ [_]) p2 upd_same (by rw [List.length_append]; show us.length + 1 ≤ _; omega) p3 (by rw [List.length_append]; show bs.length + 1 ≤ _; omega) (fun x => ?_)
        rw [List.mem_append, List.mem_singleton]
        exact or_congr_right ⟨fun z => .inl ⟨cA.1, cA.2.1, cA.2.2, z⟩, fun z => z.elim (fun z => z.2.2.2) (fun z => by omega)⟩
      · refine chain_and (p := fun i j => decide (i ≤ j)) (q := fun i j => decide (i < j)) (x := b) (y := k.1) (z := e) (u := k.2) (v := -1) (r := false) (fun Q h => ⟨_, rfl, h⟩) (fun Q h => ⟨_, rfl, h⟩) (fun Q h => ⟨_, rfl, h⟩) (fun Q h => ⟨_, rfl, h⟩) (fun Q h => ⟨1, rfl, h⟩) (by rw [Bool.and_eq_false_iff, Bool.and_eq_false_iff, decide_eq_false_iff_not, decide_eq_false_iff_not, decide_eq_false_iff_not]; omega) (iteF ?_)
        by_cases cB : e ≤ k.1 ∧ k.1 < b ∧ k.2 = 1
        · refine of_nx (ifs_and (p := fun i j => decide (i ≤ j)) (q := fun i j => decide (i < j)) (x := e) (y := k.1) (z := b) (u := k.2) (v := 1) (r := true) (fun Q h => ⟨_, rfl, h⟩) (fun Q h => ⟨_, rfl, h⟩) (fun Q h => ⟨_, rfl, h⟩) (fun Q h => ⟨_, rfl, h⟩) (fun Q h => h) (by simp [cB]) (iteT ?_))
          refine ⟨.ref L, rfl, .inl ⟨rfl, _, SqL.of eG⟩, .int g, rfl, .int b, rfl, _, _, rfl, rfl, .int k.1, rfl, _, _, rfl, rfl, _, _, rfl, rfl, .int l, rfl, _, _, rfl, rfl, _, _, rfl, .int i, rfl, .int k.1, rfl, show 4 ≤ sizeLine by decide, fun tt ntt => ?_⟩
          rw [mx0]
          obtain ⟨p1, p2, p3⟩ := put G us bs [max 0 (g + b - k.1 - 1 - l), 0, i, k.1] tt kG eG du ntt
          refine ⟨L, us, .ref tt, rfl, rfl, p1, small1000 (by omega), ?_⟩
          refine fin _ _ (bs ++ [_]) p2 upd_same (by rw [List.length_append]; show us.length + 1 ≤ _; omega) p3 (by rw [List.length_append]; show bs.length + 1 ≤ _; omega) (fun x => ?_)
          rw [List.mem_append, List.mem_singleton]
          exact or_congr_right ⟨fun z => .inr ⟨cB.1, cB.2.1, cB.2.2, z⟩, fun z => z.elim (fun z => by omega) (fun z => z.2.2.2)⟩
        · refine of_nx (ifs_and (p := fun i j => decide (i ≤ j)) (q := fun i j => decide (i < j)) (x := e) (y := k.1) (z := b) (u := k.2) (v := 1) (r := false) (fun Q h => ⟨_, rfl, h⟩) (fun Q h => ⟨_, rfl, h⟩) (fun Q h => ⟨_, rfl, h⟩) (fun Q h => ⟨_, rfl, h⟩) (fun Q h => h) (by rw [Bool.and_eq_false_iff, Bool.and_eq_false_iff, decide_eq_false_iff_not, decide_eq_false_iff_not, decide_eq_false_iff_not]; omega) (iteF ?_))
          refine fin G us bs kG eG (by omega) du (by omega) (fun x => ⟨fun z => .inl z, fun z => z.elim id (fun z => z.elim (fun z => absurd ⟨z.1, z.2.1, z.2.2.1⟩ cA) (fun z => absurd ⟨z.1, z.2.1, z.2.2.1⟩ cB))⟩)
    · obtain ⟨s8, s9, us, bs, rfl, kG, eG, lu, du, lb, hb⟩ := z
      refine ⟨.ref L, rfl, ?_⟩
      rw [lku, List.take_length] at hb
      exact q G L us bs kG nL eG (du.less fun a m => absurd m List.not_mem_nil) (by omega) hb
abbrev sStB : Stmt := topS 32
abbrev nStB : List Str := ["knots", "piece", "gone", "narrows", "pipe", "begin", "stop", "bars", "at", "width", "place", "number", "ahead", "size"]
theorem scStB : FnScope nStB ["knots", "piece", "gone", "narrows"] (defScope sStB) := ⟨rfl, rfl, rfl, by decide +kernel, rfl, by decide +kernel, by decide +kernel⟩
def spStB : Sp := fun vs H Q _ => ∃ (Lk t T : Addr) (i b e g : Int) (us : List V) (kk na : List (Int × Int)), vs = [.ref Lk, .ref t, .int g, .ref T] ∧ H Lk = some (.lst us) ∧ Dts [] H us (kk.map prD) ∧ kk.length ≤ 4 ∧ H t = some (.tup [.int i, .int b, .int e]) ∧ Dt [] H (.ref T) (.tuple (na.map prD)) ∧ na.length ≤ 3 ∧
  ∀ (H' : Hp) (L : Addr) (us : List V) (bs : List (List Int)), Keep [] H H' → H L = none → H' L = some (.lst us) → Dts [] H' us (bs.map tupI) → bs.length ≤ 12 → (∀ x, x ∈ bs ↔ StB na kk b e g x) → Q (.ref L) H'
theorem ok_stB (h : Has K mg "stuck_bars" sStB) (B : Blt mg) (cS : ∃ t, mg "STUCK" = some (.int 1 t)) : Can P w K mg base "stuck_bars" ["knots", "piece", "gone", "narrows"] 1 spStB := by
  obtain ⟨f, fd, F, g⟩ := h
  refine ⟨f, fd, F.ok (k := 0) scStB (fun vs H Q E h => ?_) (fun cdv A outer s H vs Q E hr h => ?_), g, F.kp, F.binds fun _ _ _ _ _ _ us hl => match us, hl with | [_, _, _, _], _ => rfl⟩
  · obtain ⟨Lk, t, T, i, b, e, g, us, kk, na, rfl, _⟩ := h
    rfl
  · obtain ⟨Lk, t, T, i, b, e, g, us, kk, na, rfl, eLk, dk, k4, et, dT, n3, q⟩ := h
    refine ⟨_, pss_cons (ps_asg (pv 1) (pg_tup (by rfl) (pgs_cons (pg_name (i := 4) scStB.nd rfl (by first | exact Or.inl rfl | exact Or.inr rfl)) (pgs_cons (pg_name (i := 5) scStB.nd rfl (by first | exact Or.inl rfl | exact Or.inr rfl)) (pgs_cons (pg_name (i := 6) scStB.nd rfl (by first | exact Or.inl rfl | exact Or.inr rfl)) pgs_nil)))))
      (pss_cons (ps_set (i := 7) scStB.nd rfl (by first | exact Or.inl rfl | exact Or.inr rfl) (pe_lst pa_nil))
      (pss_cons (ps_for PassesOwn.never rfl (pi_tup (pv 3)) (pg_tup (by rfl) (pgs_cons (pg_name (i := 8) scStB.nd rfl (by first | exact Or.inl rfl | exact Or.inr rfl)) (pgs_cons (pg_name (i := 9) scStB.nd rfl (by first | exact Or.inl rfl | exact Or.inr rfl)) pgs_nil)))
      (pss_one (ps_if (PW.pt (pw_or (pt_chain op_le op_le (pv 5) (pv 8) (pv 6)) (pw_or1 (pt_chain op_le op_le (pv 6) (pv 8) (pv 5))))) (pss_cons (ps_set (i := 10) scStB.nd rfl (by first | exact Or.inl rfl | exact Or.inr rfl) (pe_op op_add (pv 2) (pe_callB call_abs (by rfl) B.abs_ boot_abs (pa_cons (pe_op op_sub (pv 8) (pv 5)) pa_nil))))
      (pss_one (ps_for PassesOwn.never rfl (pi_enum (by rfl) B.enum_ (pa_cons (pv 0) pa_nil)) (pg_tup (by rfl) (pgs_cons (pg_name (i := 11) scStB.nd rfl (by first | exact Or.inl rfl | exact Or.inr rfl)) (pgs_cons (pg_tup (by rfl) (pgs_cons (pg_name (i := 12) scStB.nd rfl (by first | exact Or.inl rfl | exact Or.inr rfl)) (pgs_cons (pg_name (i := 13) scStB.nd rfl (by first | exact Or.inl rfl | exact Or.inr rfl)) pgs_nil))) pgs_nil)))
      (pss_one (ps_if (pt_cmpR op_gt (pv 13) (pv 9) (nomark _)) (pss_one (ps_expr (pe_bm PySem.F.plainAttrs_list PySem.F.slot_list_append PySem.F.type_list_append mt_append (pv 7) (pa_cons (pe_tup (pa_cons (pe_op op_sub (pe_op op_sub (pv 10) pe_int) (pv 12)) (pa_cons (pe_glob (v := .int 1) rfl cS.choose_spec ⟨_, rfl⟩) (pa_cons (pv 11) pa_nil)))) pa_nil)))) pss_nil))))) pss_nil)))
      (pss_one (ps_ret (pv 7))))), ?_⟩
    refine ⟨.ref t, rfl, t, _, rfl, SqT.of et, rfl, _, _, rfl, _, _, rfl, _, [], rfl, rfl, show 0 ≤ sizeLine by decide, fun L nL => ?_⟩
    obtain ⟨T', ku, eTT, _, eT, dku⟩ := tup_at dT
    cases eTT
    have sT : ∀ {G : Hp}, Keep [] H G → SqT K G T ku := fun k => SqT.of (k _ _ eT List.not_mem_nil)
    have lku : ku.length = na.length := by rw [dku.len, List.length_map]
    have luk : us.length = kk.length := by rw [dk.len, List.length_map]
    have kL : Keep [] H (upd H L (.lst [])) := Keep.new nL
    have eL : (upd H L (.lst [])) L = some (.lst []) := upd_same
    generalize upd H L (.lst []) = G0 at kL eL ⊢
    refine ⟨.ref T, rfl, T, rfl, ⟨_, sT kL⟩, for_tup (K := K) (a := T) (xs := ku) (fun j σ G => ∃ (s8 s9 s10 s11 s12 s13 : Option V) (vs : List V) (bs : List (List Int)), σ = [some (.ref Lk), some (.ref t), some (.int g), some (.ref T), some (.int i), some (.int b), some (.int e), some (.ref L), s8, s9, s10, s11, s12, s13] ∧ Keep [] H G ∧ G L = some (.lst vs) ∧ vs.length ≤ 4 * j ∧ Dts [L] G vs (bs.map tupI) ∧ bs.length ≤ 4 * j ∧ (∀ x, x ∈ bs ↔ StB (na.take j) kk b e g x))
      ⟨_, _, _, _, _, _, [], [], rfl, kL, eL, Nat.le_refl _, .nil, Nat.le_refl _, fun x => ⟨fun z => (by cases z), fun ⟨a, w, _, _, _, m, _⟩ => by rw [List.take_zero] at m; cases m⟩⟩ (fun j σ G _ z => ?_) (fun j y σ G gy z => ?_) (fun σ G z => ?_)⟩
    · obtain ⟨_, _, _, _, _, _, _, _, _, kG, _⟩ := z
      exact sT kG
    · obtain ⟨s8, s9, s10, s11, s12, s13, vs, bs, rfl, kG, eG, lv, dv, lb, hb⟩ := z
      obtain ⟨dd, gd, dy⟩ := (dku.keep kG).getv j gy
      rw [List.getElem?_map] at gd
      obtain ⟨k, gk, rfl⟩ := Option.map_eq_some_iff.mp gd
      obtain ⟨bb, rfl, _, ebb⟩ := prD_at dy
      have hj := (List.getElem?_eq_some_iff.mp gk).1
      have tk : ∀ x, x ∈ na.take (j + 1) ↔ x ∈ na.take j ∨ x = k := fun x => by
        rw [List.take_add_one, gk, List.mem_append]
        exact or_congr_right (by simp)
      refine ⟨bb, _, rfl, SqT.of ebb, rfl, _, _, rfl, _, [], rfl, rfl, ?_⟩
      have put : ∀ (M : Hp) (us : List V) (bs : List (List Int)) (x0 : List Int) (tt : Addr), Keep [] H M → M L = some (.lst us) → Dts [L] M us (bs.map tupI) → M tt = none → (upd M tt (.tup (x0.map V.int))) L = some (.lst us) ∧ Keep [] H (upd (upd M tt (.tup (x0.map V.int))) L (.lst (us ++ [.ref tt]))) ∧ Dts [L] (upd (upd M tt (.tup (x0.map V.int))) L (.lst (us ++ [.ref tt]))) (us ++ [.ref tt]) ((bs ++ [x0]).map tupI) := fun M us bs x0 tt kM eM dM ntt => by
        have tM : Tr [L] M := tr_one eM
        obtain ⟨q1, t1, f1⟩ := tup_facts tM (Dts.ints x0) ntt
        refine ⟨q1 L _ eM List.not_mem_nil, (kM.trans q1).upd nL, ?_⟩
        rw [List.map_append]
        exact lst_step dM q1.of f1
      have fin : ∀ (M : Hp) (vs' : List V) (bs' : List (List Int)) (s10 s11 s12 s13 : Option V), Keep [] H M → M L = some (.lst vs') → vs'.length ≤ 4 * j + 4 → Dts [L] M vs' (bs'.map tupI) → bs'.length ≤ 4 * j + 4 → (∀ x, x ∈ bs' ↔ x ∈ bs ∨ ((b ≤ k.1 ∧ k.1 ≤ e ∨ e ≤ k.1 ∧ k.1 ≤ b) ∧ ∃ (num : Nat) (ah sz : Int), kk[num]? = some (ah, sz) ∧ k.2 < sz ∧ x = [g + ab b k.1 - 1 - ah, 1, (num : Int)])) →
          ∃ (s8 s9 s10' s11' s12' s13' : Option V) (vs : List V) (bs : List (List Int)), [some (.ref Lk), some (.ref t), some (.int g), some (.ref T), some (.int i), some (.int b), some (.int e), some (.ref L), some (.int k.1), some (.int k.2), s10, s11, s12, s13] = [some (.ref Lk), some (.ref t), some (.int g), some (.ref T), some (.int i), some (.int b), some (.int e), some (.ref L), s8, s9, s10', s11', s12', s13'] ∧ Keep [] H M ∧ M L = some (.lst vs) ∧ vs.length ≤ 4 * (j + 1) ∧ Dts [L] M vs (bs.map tupI) ∧ bs.length ≤ 4 * (j + 1) ∧ (∀ x, x ∈ bs ↔ StB (na.take (j + 1)) kk b e g x) := fun M vs' bs' s10 s11 s12 s13 kM eM lv' dM lb' hb' => by
        refine ⟨_, _, _, _, _, _, vs', bs', rfl, kM, eM, by omega, dM, by omega, fun x => (hb' x).trans ?_⟩
        constructor
        · rintro (m | ⟨h, num, ah, sz, h1, h2, h3⟩)
          · obtain ⟨a, w, num, ah, sz, m, h⟩ := (hb x).mp m
            exact ⟨a, w, num, ah, sz, (tk _).mpr (.inl m), h⟩
          · exact ⟨k.1, k.2, num, ah, sz, (tk _).mpr (.inr rfl), h, h1, h2, h3⟩
        · rintro ⟨a, w, num, ah, sz, m, h, h1, h2, h3⟩
          rcases (tk _).mp m with m | m
          · exact .inl ((hb x).mpr ⟨a, w, num, ah, sz, m, h, h1, h2, h3⟩)
          · have e1 : a = k.1 := congrArg Prod.fst m
            have e2 : w = k.2 := congrArg Prod.snd m
            subst e1 e2
            exact .inr ⟨h, num, ah, sz, h1, h2, h3⟩
      by_cases cA : b ≤ k.1 ∧ k.1 ≤ e ∨ e ≤ k.1 ∧ k.1 ≤ b
      · refine chain_or (p := fun i j => decide (i ≤ j)) (q := fun i j => decide (i ≤ j)) (p' := fun i j => decide (i ≤ j)) (q' := fun i j => decide (i ≤ j)) (x := b) (y := k.1) (z := e) (x' := e) (y' := k.1) (z' := b) (r := true) (fun Q h => ⟨_, rfl, h⟩) (fun Q h => ⟨_, rfl, h⟩) (fun Q h => ⟨_, rfl, h⟩) (fun Q h => ⟨_, rfl, h⟩) (fun Q h => ⟨_, rfl, h⟩) (fun Q h => ⟨_, rfl, h⟩) (by simpa using cA) (iteT ?_)
        refine ⟨.int g, rfl, .int k.1, rfl, .int b, rfl, _, _, rfl, rfl, _, rfl, _, _, rfl, rfl, .ref Lk, rfl, Lk, us, rfl, SqL.of (kG _ _ eLk List.not_mem_nil), for_it (walk_enum (K := K) (a := Lk) (xs := us))
          (fun m σ M => ∃ (s11 s12 s13 : Option V) (vs' : List V) (bs' : List (List Int)), σ = [some (.ref Lk), some (.ref t), some (.int g), some (.ref T), some (.int i), some (.int b), some (.int e), some (.ref L), some (.int k.1), some (.int k.2), some (.int (g + if k.1 - b < 0 then -(k.1 - b) else k.1 - b)), s11, s12, s13] ∧ Keep [] H M ∧ M L = some (.lst vs') ∧ vs'.length ≤ 4 * j + m ∧ Dts [L] M vs' (bs'.map tupI) ∧ bs'.length ≤ 4 * j + m ∧ ∀ x, x ∈ bs' ↔ x ∈ bs ∨ ∃ (num : Nat) (ah sz : Int), num < m ∧ kk[num]? = some (ah, sz) ∧ k.2 < sz ∧ x = [g + ab b k.1 - 1 - ah, 1, (num : Int)])
          ⟨_, _, _, vs, bs, rfl, kG, eG, by omega, dv, by omega, fun x => ⟨fun z => .inl z, fun z => z.elim id (fun ⟨_, _, _, z, _⟩ => absurd z (Nat.not_lt_zero _))⟩⟩ (fun m σ M _ z => ?_) (fun m y σ M M' hm z yy => ?_) (fun σ M z => ?_)⟩
        · obtain ⟨_, _, _, _, _, _, kM, _⟩ := z
          exact SqL.of (kM _ _ eLk List.not_mem_nil)
        · obtain ⟨s11, s12, s13, vs', bs', rfl, kM, eM, lv', dM, lb', hb'⟩ := z
          obtain ⟨T0, x1, y1, rfl, nT, rfl, hx1, hy1⟩ := yy
          cases hx1
          obtain ⟨dd, gd, dy⟩ := (dk.keep kM).getv m hy1
          rw [List.getElem?_map] at gd
          obtain ⟨kn, gk2, rfl⟩ := Option.map_eq_some_iff.mp gd
          obtain ⟨b2, rfl, _, eb2⟩ := prD_at dy
          have kT := Keep.new (av := []) (o := .tup [.int (m : Nat), .ref b2]) nT
          have eT2 : (upd M T0 (.tup [.int (m : Nat), .ref b2])) T0 = some (.tup [.int (m : Nat), .ref b2]) := upd_same
          have kM2 := kM.trans kT
          have eM2 := kT _ _ eM List.not_mem_nil
          have dM2 := dM.keep kT.of
          have eb3 := kT _ _ eb2 List.not_mem_nil
          generalize upd M T0 (.tup [.int (m : Nat), .ref b2]) = M2 at kT eT2 kM2 eM2 dM2 eb3 ⊢
          refine ⟨T0, _, rfl, SqT.of eT2, rfl, _, _, rfl, _, [], rfl, ⟨b2, _, rfl, SqT.of eb3, rfl, _, _, rfl, _, [], rfl, rfl, rfl, ?_⟩⟩
          have ab_e : (g + if k.1 - b < 0 then -(k.1 - b) else k.1 - b) = g + ab b k.1 := by
            unfold ab
            split <;> split <;> omega
          have mm := (List.getElem?_eq_some_iff.mp gk2).1
          refine ⟨.int kn.2, rfl, .int k.2, rfl, kn.2, k.2, rfl, rfl, _, rfl, ite2 (fun c => ?_) (fun c => ?_)⟩
          · have c' : k.2 < kn.2 := of_decide_eq_true c
            refine ⟨.ref L, rfl, .inl ⟨rfl, _, SqL.of eM2⟩, .int _, rfl, _, _, rfl, rfl, .int kn.1, rfl, _, _, rfl, rfl, .int (m : Nat), rfl, show 3 ≤ sizeLine by decide, fun tt ntt => ?_⟩
            rw [ab_e]
            obtain ⟨p1, p2, p3⟩ := put M2 vs' bs' [g + ab b k.1 - 1 - kn.1, 1, (m : Int)] tt kM2 eM2 dM2 ntt
            refine ⟨L, vs', .ref tt, rfl, rfl, p1, small1000 (by omega), _, _, _, vs' ++ [V.ref tt], bs' ++ [[g + ab b k.1 - 1 - kn.1, 1, (m : Int)]], rfl, p2, upd_same, by rw [List.length_append]; show vs'.length + 1 ≤ _; omega, p3, by rw [List.length_append]; show bs'.length + 1 ≤ _; omega, fun x => ?_⟩
            rw [List.mem_append, List.mem_singleton, hb' x, or_assoc]
            refine or_congr_right ⟨?_, ?_⟩
            · rintro (⟨num, ah, sz, h0, h⟩ | rfl)
              · exact ⟨num, ah, sz, by omega, h⟩
              · exact ⟨m, kn.1, kn.2, by omega, gk2, c', rfl⟩
            · rintro ⟨num, ah, sz, h0, h1, h2, h3⟩
              by_cases e : num = m
              · subst e
                rw [gk2] at h1
                cases h1
                exact .inr h3
              · exact .inl ⟨num, ah, sz, by omega, h1, h2, h3⟩
          · have c' : ¬ k.2 < kn.2 := fun z => c (decide_eq_true z)
            refine ⟨_, _, _, vs', bs', rfl, kM2, eM2, by omega, dM2, by omega, fun x => (hb' x).trans (or_congr_right ⟨?_, ?_⟩)⟩
            · rintro ⟨num, ah, sz, h0, h⟩
              exact ⟨num, ah, sz, by omega, h⟩
            · rintro ⟨num, ah, sz, h0, h1, h2, h3⟩
              by_cases e : num = m
              · subst e
                rw [gk2] at h1
                cases h1
                exact absurd h2 c'
              · exact ⟨num, ah, sz, by omega, h1, h2, h3⟩
        · obtain ⟨s11, s12, s13, vs', bs', rfl, kM, eM, lv', dM, lb', hb'⟩ := z
          refine fin M vs' bs' _ _ _ _ kM eM (by omega) dM (by omega) (fun x => (hb' x).trans (or_congr_right ?_))
          constructor
          · rintro ⟨num, ah, sz, _, h1, h2, h3⟩
            exact ⟨cA, num, ah, sz, h1, h2, h3⟩
          · rintro ⟨_, num, ah, sz, h1, h2, h3⟩
            exact ⟨num, ah, sz, by have := (List.getElem?_eq_some_iff.mp h1).1; omega, h1, h2, h3⟩
      · refine chain_or (p := fun i j => decide (i ≤ j)) (q := fun i j => decide (i ≤ j)) (p' := fun i j => decide (i ≤ j)) (q' := fun i j => decide (i ≤ j)) (x := b) (y := k.1) (z := e) (x' := e) (y' := k.1) (z' := b) (r := false) (fun Q h => ⟨_, rfl, h⟩) (fun Q h => ⟨_, rfl, h⟩) (fun Q h => ⟨_, rfl, h⟩) (fun Q h => ⟨_, rfl, h⟩) (fun Q h => ⟨_, rfl, h⟩) (fun Q h => ⟨_, rfl, h⟩) (by simp only [Bool.or_eq_false_iff, Bool.and_eq_false_iff, decide_eq_false_iff_not]; omega) (iteF ?_)
        exact fin G vs bs _ _ _ _ kG eG (by omega) dv (by omega) (fun x => ⟨fun z => .inl z, fun z => z.elim id (fun z => absurd z.1 cA)⟩)
    · obtain ⟨s8, s9, s10, s11, s12, s13, vs, bs, rfl, kG, eG, lv, dv, lb, hb⟩ := z
      refine ⟨.ref L, rfl, ?_⟩
      rw [lku, List.take_length] at hb
      exact q G L vs bs kG nL eG (dv.less fun a m => absurd m List.not_mem_nil) (by omega) hb
end
end Rw

namespace Rw
open PySem PySem.Spec PyProof.Rows L2
theorem seq_if {c : TT} {t u : TS} {D : Ends} {σ : L2.St} {H : Hp} (R : Hp → Prop) (second : ∀ M, R M → u D σ M) (first : (∀ M, R M → u D σ M) → tIfS c t tNext { D with nx := u D } σ H) : tSeq (tIfS c t tNext) u D σ H := first second
theorem pipe_two {av : List Addr} {H : Hp} {pa T1 T2 : Addr} {p : Pi} {x y l : V} (h : Dt av H (.ref pa) p.dat) (e : H pa = some (.tup [x, y, l, .ref T1, .ref T2])) : Dt av H (.ref T1) (.tuple (p.na.map prD)) ∧ Dt av H (.ref T2) (.tuple (p.fl.map prD)) := by
  have h' : Dt av H (.ref pa) (.tuple [.int p.x, .int p.y, .int p.l, .tuple (p.na.map prD), .tuple (p.fl.map prD)]) := h
  obtain ⟨a, xs, ea, na, eb, db⟩ := tup_at h'
  cases ea
  rw [e] at eb
  cases eb
  cases db with
  | cons _ db => cases db with
    | cons _ db => cases db with
      | cons _ db => cases db with
        | cons d4 db => cases db with
          | cons d5 _ => exact ⟨d4, d5⟩
theorem ptot_app : ∀ (r s : List (List Int)), ptot (r ++ s) = ptot r + ptot s
  | [], s => by show ptot s = 0 + ptot s; omega
  | c :: r, s => by
    have := ptot_app r s
    show plen c + ptot (r ++ s) = plen c + ptot r + ptot s
    omega
theorem ptot_succ {r : List (List Int)} {j : Nat} {c : List Int} (g : r[j]? = some c) : ptot (r.take (j + 1)) = ptot (r.take j) + plen c := by
  rw [List.take_add_one, g, ptot_app]
  show _ + (plen c + 0) = _
  omega
theorem of_nx2 {f : L2.St → Hp → Prop} {r : VK} {b c : L2.St → Hp → Prop} {σ : L2.St} {H : Hp} (h : f σ H) : ({ nx := f, rt := r, bk := b, ct := c } : Ends).nx σ H := h
theorem chain_t {ta tb tc : TE} {σ : L2.St} {H : Hp} {Q : Bool → Hp → Prop} {p q : Int → Int → Bool} {x y z : Int} {r : Bool} (a : Ev ta σ H (.int x)) (b : Ev tb σ H (.int y)) (c : Ev tc σ H (.int z)) (e : (p x y && q y z) = r) (h : Q r H) : tTest (tChain (rI0 fun i j => V.bl (p i j)) (rI0 fun i j => V.bl (q i j)) ta tb tc) σ H Q := by
  subst e
  refine a _ (b _ ⟨x, y, rfl, rfl, _, rfl, ?_⟩)
  cases hp : p x y with
  | false =>
    rw [hp] at h
    exact iteF ⟨_, rfl, h⟩
  | true =>
    rw [hp] at h
    exact iteT (c _ ⟨y, z, rfl, rfl, _, rfl, h⟩)
theorem tups_off {H : Hp} {L : Addr} {xs : List V} (e : H L = some (.lst xs)) : ∀ {us : List V} {bs : List (List Int)}, Dts [] H us (bs.map tupI) → Dts [L] H us (bs.map tupI)
  | _, [], h => by cases h; exact .nil
  | _, b :: bs, h => by
    cases h with
    | cons h t =>
      obtain ⟨a, rfl, _, ea⟩ := tupI_at h
      refine .cons (.tup (fun m => ?_) ea (Dts.ints b)) (tups_off e t)
      cases List.mem_singleton.mp m
      rw [e] at ea
      cases ea
theorem PB_ne {ps : List Pi} {l : Int} {kk : List (Int × Int)} {c : List Int} {g : Int} {x : List Int} (h : PB ps l kk c g x) : ∃ y r, x = y :: r := by
  obtain ⟨i, b, e, _, ⟨a, w, _, ⟨_, _, _, e⟩ | ⟨_, _, _, e⟩⟩ | ⟨a, w, num, ah, sz, _, _, _, _, e⟩⟩ := h <;> exact ⟨_, _, e⟩
theorem prD_tup (ks : List (Int × Int)) : ks.map prD = (ks.map fun k => [k.1, k.2]).map tupI := by rw [List.map_map]; rfl
theorem Dts.any {av : List Addr} {H : Hp} {us : List V} {ds : List PyData} (h : Dts av H us ds) : Dts [] H us ds := h.less fun a m => absurd m List.not_mem_nil
theorem Dt.any {av : List Addr} {H : Hp} {v : V} {d : PyData} (h : Dt av H v d) : Dt [] H v d := h.less fun a m => absurd m List.not_mem_nil
theorem emp_false {xs : List V} (h : ¬ (!xs.isEmpty) = true) : xs = [] := by
  cases xs with
  | nil => rfl
  | cons _ _ => exact absurd rfl h
theorem st_upd {M N : Hp} {L b : Addr} {o : HO} {vs : List V} (e : M b = some (.tup vs)) (eL : ∃ ws, M L = some (.lst ws)) (k : Keep [] M N) : (upd N L o) b = some (.tup vs) := by
  have ne : b ≠ L := fun z => by
    obtain ⟨ws, eL⟩ := eL
    rw [z, eL] at e
    cases e
  rw [upd_ne ne]
  exact k _ _ e List.not_mem_nil
theorem prs_off {M N : Hp} {L T : Addr} {o : HO} {vs : List V} {ks : List (Int × Int)} (e : M L = some (.lst vs)) (d : Dt [] M (.ref T) (.tuple (ks.map prD))) (k : Keep [] M N) : Dt [] (upd N L o) (.ref T) (.tuple (ks.map prD)) := by
  obtain ⟨T', xs, eq, _, eT, dT⟩ := tup_at d
  cases eq
  rw [prD_tup] at dT ⊢
  have off := tups_off e dT
  have nT : T ∉ [L] := fun m => by
    cases List.mem_singleton.mp m
    rw [e] at eT
    cases eT
  exact (Dt.tup nT eT off).keep (k.of.trans (Keep.put List.mem_cons_self)) |>.any
section
variable {P : Program} {w : World} {K : PySem.W.Frag} {mg : Str → Option Value} {base : Heap}
abbrev sBOf : Stmt := topS 29
abbrev nBOf : List Str := ["plan", "rope", "end", "pieces", "steps", "knots", "bars", "gone", "piece", "narrows", "flaps", "bar"]
theorem scBOf : FnScope nBOf ["plan", "rope", "end", "pieces", "steps"] (defScope sBOf) := ⟨rfl, rfl, rfl, by decide +kernel, rfl, by decide +kernel, by decide +kernel⟩
def BarL (ps : List Pi) (l e : Int) (ks : List (Int × Int)) (pcs : List (List Int)) (st : Int) (x : List Int) : Prop := (∃ (j : Nat) (c : List Int), pcs[j]? = some c ∧ PB ps l (kfb l e ks) c (ptot (pcs.take j)) x) ∧ 0 ≤ x.headD 0 ∧ x.headD 0 < st
def spBOf (C : Addr) : Sp := fun vs H Q _ => ∃ (a Lp : Addr) (v : V) (n l e st : Int) (ps : List Pi) (d : Int → Int → Int) (ks : List (Int × Int)) (us : List V) (pcs : List (List Int)), vs = [.ref a, v, .int e, .ref Lp, .int st] ∧ PlanAt C [] H a n ps d ∧ HouseOk n ps ∧ Dt [] H v (ropeD l ks) ∧ ks.length ≤ 4 ∧ H Lp = some (.lst us) ∧ Dts [] H us (pcs.map tupI) ∧ pcs.length ≤ 100 ∧ (∀ c ∈ pcs, PcOk ps c) ∧
  ∀ (H' : Hp) (L : Addr) (us : List V) (bs : List (List Int)), Keep [] H H' → H L = none → H' L = some (.lst us) → Dts [] H' us (bs.map tupI) → bs.length ≤ 3000 → (∀ x, x ∈ bs ↔ BarL ps l e ks pcs st x) → Q (.ref L) H'
theorem ok_bOf (h : Has K mg "bars_of" sBOf) {C : Addr} (B : Blt mg) (X : PlanTxt K C) (CK : Can P w K mg base "knots_from_behind" ["rope", "end"] 1 spKFB) (CS : Can P w K mg base "shut_bars" ["length", "piece", "gone", "flaps"] 1 spShB) (CT : Can P w K mg base "stuck_bars" ["knots", "piece", "gone", "narrows"] 1 spStB) (CL : Can P w K mg base "length_of" ["piece"] 1 spLen) : Can P w K mg base "bars_of" ["plan", "rope", "end", "pieces", "steps"] 2 (spBOf C) := by
  obtain ⟨f, fd, F, g⟩ := h
  refine ⟨f, fd, F.ok (k := 1) scBOf (fun vs H Q E h => ?_) (fun cdv A outer s H vs Q E hr h => ?_), g, F.kp, F.binds fun _ _ _ _ _ _ us hl => match us, hl with | [_, _, _, _, _], _ => rfl⟩
  · obtain ⟨a, Lp, v, n, l, e, st, ps, d, ks, us, pcs, rfl, _⟩ := h
    rfl
  · obtain ⟨a, Lp, v, n, l, e, st, ps, d, ks, us, pcs, rfl, pl, hk, dr, k4, eLp, du, p100, okc, q⟩ := h
    refine ⟨_, pss_cons (ps_set (i := 5) scBOf.nd rfl (by first | exact Or.inl rfl | exact Or.inr rfl) (pe_can CK (hr.mono (by decide)) (by rfl) (pa_cons (pv 1) (pa_cons (pv 2) pa_nil))))
      (pss_cons (ps_set (i := 6) scBOf.nd rfl (by first | exact Or.inl rfl | exact Or.inr rfl) (pe_lst pa_nil))
      (pss_cons (ps_set (i := 7) scBOf.nd rfl (by first | exact Or.inl rfl | exact Or.inr rfl) pe_int)
      (pss_cons (ps_for PassesOwn.never rfl (pi_list (pv 3)) (pg_name (i := 8) scBOf.nd rfl (by first | exact Or.inl rfl | exact Or.inr rfl))
      (pss_cons (ps_asg (pe_slice sl_tup (pe_ix ix_tup (pe_fld (pv 0) rfl) (pe_ix ix_tup (pv 8) pe_int (fun _ _ => rfl)) (fun _ _ => rfl)) (po_some pe_int) po_none) (pg_tup (by rfl) (pgs_cons (pg_name (i := 9) scBOf.nd rfl (by first | exact Or.inl rfl | exact Or.inr rfl)) (pgs_cons (pg_name (i := 10) scBOf.nd rfl (by first | exact Or.inl rfl | exact Or.inr rfl)) pgs_nil))))
      (pss_cons (ps_if (pt_truth (pv 10) (by intro _; rfl)) (pss_one (ps_expr (pe_bm PySem.F.plainAttrs_list PySem.F.slot_list_extend PySem.F.type_list_extend mt_extend (pv 6) (pa_cons (pe_can CS (hr.mono (by decide)) (by rfl) (pa_cons (pe_ix ix_tup (pv 1) pe_int (fun _ _ => rfl)) (pa_cons (pv 8) (pa_cons (pv 7) (pa_cons (pv 10) pa_nil))))) pa_nil)))) pss_nil)
      (pss_cons (ps_if (PW.pt (pw_and (pt_truth (pv 9) (by intro _; rfl)) (pw_and1 (pt_truth (pv 5) (by intro _; rfl))))) (pss_one (ps_expr (pe_bm PySem.F.plainAttrs_list PySem.F.slot_list_extend PySem.F.type_list_extend mt_extend (pv 6) (pa_cons (pe_can CT (hr.mono (by decide)) (by rfl) (pa_cons (pv 5) (pa_cons (pv 8) (pa_cons (pv 7) (pa_cons (pv 9) pa_nil))))) pa_nil)))) pss_nil)
      (pss_one (ps_aug (i := 7) scBOf.nd rfl (by first | exact Or.inl rfl | exact Or.inr rfl) (pe_can CL (hr.mono (by decide)) (by rfl) (pa_cons (pv 8) pa_nil)) ip_add))))))
      (pss_one (ps_ret (pe_lc (own := [("bar", 11)]) (g := gName 11) rfl scBOf.nd (pi_list (pv 6)) (blkOk_by (N := nBOf) (sc := defScope sBOf) (by decide +kernel)) (fun _ _ _ _ _ => (pg_name (i := 11) scBOf.nd rfl (by first | exact Or.inl rfl | exact Or.inr rfl))) (fun _ _ _ _ _ => pts_one (pt_chain op_le op_lt pe_int (pe_ix (ix_tupK (K := K) rfl) (pv 11) pe_int (fun _ _ => rfl)) (pv 4))) (fun _ _ _ _ _ => (pv 11)))))))), ?_⟩
    obtain ⟨ra, ys, rfl, _, era, dra⟩ := tup_at (show Dt [] H v (.tuple [.int l, .tuple (ks.map prD)]) from dr)
    obtain ⟨x1, ysr, rfl⟩ : ∃ x1 ysr, ys = x1 :: ysr := by cases dra; exact ⟨_, _, rfl⟩
    have ex1 : x1 = .int l := by cases dra with | cons h _ => cases h; rfl
    subst ex1
    have lus : us.length = pcs.length := by rw [du.len, List.length_map]
    obtain ⟨dx, hb, pp, dl, gl, tl, xp, ds, gs, ws, a1', a2, a3, a4, a5, a6, a7, _⟩ := pl
    refine ⟨.ref ra, rfl, .int e, rfl, .ref ra, l, e, ks, rfl, dr, k4, fun H1 Lk kus k1 nLk eLk dk => ?_⟩
    have lkf : (kfb l e ks).length = ks.length := by
      unfold kfb
      split
      · exact List.length_map _
      · rfl
    have lku : kus.length = ks.length := by rw [dk.len, List.length_map, lkf]
    refine ⟨show 0 ≤ sizeLine by decide, fun L nL => ?_⟩
    have k2 : Keep [] H (upd H1 L (.lst [])) := k1.trans (Keep.new nL)
    have nLH : H L = none := k1.fr nL
    have eL : (upd H1 L (.lst [])) L = some (.lst []) := upd_same
    have eLk2 := Keep.new (av := []) (o := .lst []) nL _ _ eLk List.not_mem_nil
    have dk2 := dk.keep (Keep.new (av := []) (o := .lst []) nL).of
    generalize upd H1 L (.lst []) = G0 at k2 eL eLk2 dk2 ⊢
    have dkL : Dts [L] G0 kus ((kfb l e ks).map prD) := by
      rw [prD_tup] at dk2 ⊢
      exact tups_off eL dk2
    have nLk : L ≠ Lk := fun z => by
      rw [z] at nL
      rw [eLk] at nL
      cases nL
    refine ⟨.ref Lp, rfl, Lp, rfl, ⟨_, SqL.of (k2 _ _ eLp List.not_mem_nil)⟩, for_list (K := K) (a := Lp) (xs := us) (fun j σ G => ∃ (s8 s9 s10 : Option V) (vs : List V) (bs : List (List Int)), σ = [some (.ref a), some (.ref ra), some (.int e), some (.ref Lp), some (.int st), some (.ref Lk), some (.ref L), some (.int (ptot (pcs.take j))), s8, s9, s10, none] ∧ Keep [L] G0 G ∧ Keep [] H G ∧ G L = some (.lst vs) ∧ vs.length ≤ 24 * j ∧ Dts [L] G vs (bs.map tupI) ∧ bs.length ≤ 24 * j ∧ ∀ x, x ∈ bs ↔ ∃ (t : Nat) (c : List Int), t < j ∧ pcs[t]? = some c ∧ PB ps l (kfb l e ks) c (ptot (pcs.take t)) x)
      ⟨_, _, _, [], [], rfl, Keep.refl _ _, k2, eL, Nat.le_refl _, .nil, Nat.le_refl _, fun x => ⟨fun z => (by cases z), fun ⟨t, _, z, _⟩ => absurd z (Nat.not_lt_zero t)⟩⟩ (fun j σ G _ z => ?_) (fun j y σ G gy z => ?_) (fun σ G z => ?_)⟩
    · obtain ⟨_, _, _, _, _, _, _, kG, _⟩ := z
      exact SqL.of (kG _ _ eLp List.not_mem_nil)
    · obtain ⟨s8, s9, s10, vs, bs, rfl, kG0, kG, eG, lv, dv, lb, hb'⟩ := z
      obtain ⟨dd, gd, dy⟩ := (du.keep kG).getv j gy
      rw [List.getElem?_map] at gd
      obtain ⟨c, gc, rfl⟩ := Option.map_eq_some_iff.mp gd
      obtain ⟨i, b, e2, rfl, i0, i1, b0, b1, e0, e1⟩ := okc c (List.mem_of_getElem? gc)
      obtain ⟨t, rfl, _, et⟩ := tupI_at dy
      have hj := (List.getElem?_eq_some_iff.mp gc).1
      obtain ⟨p, pa, T1, T2, mp, gp, ga, epa⟩ := pi_at (a7.keep kG) i0 i1
      have epr : p = pr ps i := by
        have z := (pr_mem i0 i1).2
        rw [z] at gp; exact (Option.some.inj gp).symm
      subst epr
      obtain ⟨vv, ev, dpi⟩ := (a7.keep kG).get i.toNat (d := (pr ps i).dat) (by rw [List.getElem?_map, (pr_mem i0 i1).2]; rfl)
      have ev2 : vv = .ref pa := by
        have z := atI_of i0 ev
        rw [ga] at z; exact (Option.some.inj z).symm
      subst ev2
      obtain ⟨d4, d5⟩ := pipe_two dpi epa
      obtain ⟨T2', f1, eq2, _, eT2, dT2⟩ := tup_at d5
      cases eq2
      have fit := (hk.ok _ mp).fit
      have nle := fit.nle
      have fle := fit.fle
      have lf1 : f1.length = (pr ps i).fl.length := by rw [dT2.len, List.length_map]
      refine ⟨.ref a, rfl, a, C, dx, _, .ref pp, rfl, kG _ _ a2 List.not_mem_nil, X.cl, X.nP, pf_pipes .., .ref t, rfl, t, _, 0, .int i, rfl, rfl, SqT.of et, atI_nat (j := 0) rfl, pp, xp, i, .ref pa, rfl, rfl, SqT.of (kG _ _ a6 List.not_mem_nil), ga, 3, rfl, pa, [.int (pr ps i).x, .int (pr ps i).y, .int (pr ps i).l, .ref T1, .ref T2], rfl, SqT.of epa, show ¬ (HT.sIx 5 0 (some 3) = 0 ∧ HT.sIx 5 5 none = 5) by decide +kernel, fun T3 nT3 => ?_⟩
      rw [show cutV [V.int (pr ps i).x, .int (pr ps i).y, .int (pr ps i).l, .ref T1, .ref T2] (some 3) none = [.ref T1, .ref T2] from rfl]
      refine ⟨T3, [.ref T1, .ref T2], rfl, SqT.of upd_same, rfl, _, _, rfl, _, [], rfl, rfl, ?_⟩
      have k3 : Keep [] G (upd G T3 (.tup [.ref T1, .ref T2])) := Keep.new nT3
      generalize upd G T3 (.tup [.ref T1, .ref T2]) = G3 at k3 ⊢
      have kG3 := kG.trans k3
      have kG03 := kG0.trans k3.of
      have eG3 := k3 _ _ eG List.not_mem_nil
      have dv3 := dv.keep k3.of
      -- the step's own list of bars
      refine of_nx2 ?_
      refine seq_if (fun M => Keep [L] G0 M ∧ Keep [] H M ∧ ∃ (vs' : List V) (bs' : List (List Int)), M L = some (.lst vs') ∧ vs'.length ≤ 24 * j + 12 ∧ Dts [L] M vs' (bs'.map tupI) ∧ bs'.length ≤ 24 * j + 12 ∧ M t = some (.tup [.int i, .int b, .int e2]) ∧ Dt [] M (.ref T1) (.tuple ((pr ps i).na.map prD)) ∧ ∀ x, x ∈ bs' ↔ x ∈ bs ∨ ShB ps l i b e2 (ptot (pcs.take j)) x) (fun M hM => ?_) (fun second => ?_)
      · obtain ⟨kM0, kM, vs', bs', eM, lv', dM, lb', etM, d4M, hb2⟩ := hM
        refine seq_if (fun N => Keep [L] G0 N ∧ Keep [] H N ∧ ∃ (vs' : List V) (bs' : List (List Int)), N L = some (.lst vs') ∧ vs'.length ≤ 24 * j + 24 ∧ Dts [L] N vs' (bs'.map tupI) ∧ bs'.length ≤ 24 * j + 24 ∧ N t = some (.tup [.int i, .int b, .int e2]) ∧ ∀ x, x ∈ bs' ↔ x ∈ bs ∨ PB ps l (kfb l e ks) [i, b, e2] (ptot (pcs.take j)) x) (fun N hN => ?_) (fun third => ?_)
        · obtain ⟨kN0, kN, vs3, bs3, eN, lv3, dN, lb3, etN, hb3⟩ := hN
          have ept : ptot (pcs.take (j + 1)) = ptot (pcs.take j) + plen [i, b, e2] := ptot_succ gc
          refine ⟨_, rfl, .ref t, rfl, t, i, b, e2, rfl, etN, _, _, rfl, rfl, _, _, _, vs3, bs3, by rw [ept]; rfl, kN0, kN, eN, by omega, dN, by omega, fun x => (hb3 x).trans ⟨?_, ?_⟩⟩
          · rintro (m | h)
            · obtain ⟨u, c, h1, h⟩ := (hb' x).mp m
              exact ⟨u, c, by omega, h⟩
            · exact ⟨j, _, by omega, gc, h⟩
          · rintro ⟨u, c, h1, h2, h⟩
            by_cases e : u = j
            · subst e
              rw [gc] at h2
              cases h2
              exact .inr h
            · exact .inl ((hb' x).mpr ⟨u, c, by omega, h2, h⟩)
        · obtain ⟨T1', n1, eq1, _, eT1, dT1⟩ := tup_at d4M
          cases eq1
          have sT1 : SqT K M T1 n1 := SqT.of eT1
          have ln1 : n1.length = (pr ps i).na.length := by rw [dT1.len, List.length_map]
          have eLkM := kM0 _ _ eLk2 (fun m => nLk (List.mem_singleton.mp m).symm)
          have same : ∀ (h : n1 = [] ∨ kus = []), ∀ x, x ∈ bs' ↔ x ∈ bs ∨ PB ps l (kfb l e ks) [i, b, e2] (ptot (pcs.take j)) x := fun h x => (hb2 x).trans (or_congr_right ⟨fun z => ⟨i, b, e2, rfl, .inl z⟩, fun ⟨i', b', e', eq, z⟩ => by
            cases eq
            refine z.elim id (fun ⟨a, w, num, ah, sz, m, _, gk, _⟩ => ?_)
            rcases h with h | h
            · rw [h] at ln1
              rw [List.length_eq_zero_iff.mp ln1.symm] at m
              cases m
            · rw [h] at lku
              have z : (kfb l e ks).length = 0 := by rw [lkf, ← lku]; rfl
              rw [List.length_eq_zero_iff.mp z] at gk
              cases gk⟩)
          refine ⟨.ref T1, rfl, _, .inr (.inl ⟨n1, sT1, rfl⟩), ite2 (fun c1 => ⟨.ref Lk, rfl, _, .inl ⟨kus, SqL.of eLkM, rfl⟩, ite2 (fun c2 => ?_) (fun c2 => third M ⟨kM0, kM, vs', bs', eM, by omega, dM, by omega, etM, same (.inr (emp_false c2))⟩)⟩) (fun c1 => iteF (third M ⟨kM0, kM, vs', bs', eM, by omega, dM, by omega, etM, same (.inl (emp_false c1))⟩))⟩
          refine ⟨.ref L, rfl, .inl ⟨rfl, _, SqL.of eM⟩, .ref Lk, rfl, .ref t, rfl, .int _, rfl, .ref T1, rfl, Lk, t, T1, i, b, e2, _, kus, kfb l e ks, _, rfl, eLkM, (dkL.keep kM0).any, by omega, etM, d4M, nle, fun N L' us' bs2 kN nL' eL' dN lb2 hb3 => ?_⟩
          have lu' : us'.length = bs2.length := by rw [dN.len, List.length_map]
          refine ⟨L, L', vs', us', rfl, rfl, kN _ _ eM List.not_mem_nil, eL', Nat.le_trans (by omega : _ ≤ 3000) (by decide), third _ ⟨(kM0.trans kN.of).trans (Keep.put List.mem_cons_self), (kM.trans kN).upd nLH, vs' ++ us', bs' ++ bs2, upd_same, by rw [List.length_append]; omega, ?_, by rw [List.length_append]; omega, st_upd etM ⟨_, eM⟩ kN, fun x => ?_⟩⟩
          · rw [List.map_append]
            exact ((dM.keep kN.of).app (tups_off (kN _ _ eM List.not_mem_nil) dN)).keep (Keep.put List.mem_cons_self)
          · rw [List.mem_append, hb2 x, hb3 x, or_assoc]
            exact or_congr_right ⟨fun z => ⟨i, b, e2, rfl, z⟩, fun ⟨i', b', e', eq, z⟩ => by cases eq; exact z⟩
      · have d43 := d4.keep k3
        have d53 := d5.keep k3
        obtain ⟨T2', f1, eq2, _, eT2, dT2⟩ := tup_at d53
        cases eq2
        have lf1 : f1.length = (pr ps i).fl.length := by rw [dT2.len, List.length_map]
        have et3 := k3 _ _ et List.not_mem_nil
        refine ⟨.ref T2, rfl, _, .inr (.inl ⟨f1, SqT.of eT2, rfl⟩), ite2 (fun c1 => ?_) (fun c1 => second G3 ⟨kG03, kG3, vs, bs, eG3, by omega, dv3, by omega, et3, d43, fun x => ⟨fun z => .inl z, fun z => z.elim id (fun ⟨a, w, m, _⟩ => ?_)⟩⟩)⟩
        · refine ⟨.ref L, rfl, .inl ⟨rfl, _, SqL.of eG3⟩, .ref ra, rfl, ra, _, 0, .int l, rfl, rfl, SqT.of (kG3 _ _ era List.not_mem_nil), atI_nat (j := 0) rfl, .ref t, rfl, .int _, rfl, .ref T2, rfl, t, T2, l, i, b, e2, _, ps, rfl, et3, d53, by omega, fun N L' us' bs2 kN nL' eL' dN lb2 hb3 => ?_⟩
          have lu' : us'.length = bs2.length := by rw [dN.len, List.length_map]
          refine ⟨L, L', vs, us', rfl, rfl, kN _ _ eG3 List.not_mem_nil, eL', Nat.le_trans (by omega : _ ≤ 3000) (by decide), second _ ⟨(kG03.trans kN.of).trans (Keep.put List.mem_cons_self), (kG3.trans kN).upd nLH, vs ++ us', bs ++ bs2, upd_same, by rw [List.length_append]; omega, ?_, by rw [List.length_append]; omega, st_upd et3 ⟨_, eG3⟩ kN, (prs_off eG3 d43 kN), fun x => ?_⟩⟩
          · rw [List.map_append]
            exact ((dv3.keep kN.of).app (tups_off (kN _ _ eG3 List.not_mem_nil) dN)).keep (Keep.put List.mem_cons_self)
          · rw [List.mem_append, hb3 x]
        · rw [emp_false c1] at lf1
          rw [List.length_eq_zero_iff.mp lf1.symm] at m
          cases m
    · obtain ⟨s8, s9, s10, vs, bs, rfl, kG0, kG, eG, lv, dv, lb, hb'⟩ := z
      refine ⟨.ref L, rfl, L, rfl, ⟨_, SqL.of eG⟩, fun W nW => ?_⟩
      have nWL : W ≠ L := fun z => by rw [z, eG] at nW; cases nW
      refine lc_list (K := K) (a := L) (xs := vs) (fun t M => Keep [] G M ∧ ∃ (ws : List V) (cs : List (List Int)), M W = some (.lst ws) ∧ ws.length ≤ t ∧ Dts [W] M ws (cs.map tupI) ∧ cs.length ≤ t ∧ ∀ x, x ∈ cs ↔ x ∈ bs.take t ∧ 0 ≤ x.headD 0 ∧ x.headD 0 < st)
        ⟨Keep.new nW, [], [], upd_same, Nat.le_refl _, .nil, Nat.le_refl _, fun x => ⟨fun z => (by cases z), fun z => by rw [List.take_zero] at z; cases z.1⟩⟩ (fun t M _ z => SqL.of (z.1 _ _ eG List.not_mem_nil)) (fun t y M gy z => ?_) (fun M z => ?_)
      · obtain ⟨kM, ws, cs, eM, lw, dM, lc, hc⟩ := z
        obtain ⟨dd, gd, dy⟩ := (dv.any.keep kM).getv t gy
        rw [List.getElem?_map] at gd
        obtain ⟨x0, gx, rfl⟩ := Option.map_eq_some_iff.mp gd
        obtain ⟨tt, rfl, _, ett⟩ := tupI_at dy
        have hx0 := (hb' x0).mp (List.mem_of_getElem? gx)
        obtain ⟨y0, r0, rfl⟩ := PB_ne hx0.choose_spec.choose_spec.2.2
        have tk : ∀ x, x ∈ bs.take (t + 1) ↔ x ∈ bs.take t ∨ x = y0 :: r0 := fun x => by
          rw [List.take_add_one, gx, List.mem_append]
          exact or_congr_right (by simp)
        have bst : bs.length ≤ 2400 := by omega
        have ht := (List.getElem?_eq_some_iff.mp gx).1
        refine ⟨rfl, chain_t (p := fun i j => decide (i ≤ j)) (q := fun i j => decide (i < j)) (x := 0) (y := y0) (z := st) (fun Q h => h) (fun Q h => ⟨.ref tt, rfl, tt, _, 0, .int y0, rfl, rfl, SqT.of ett, atI_nat (j := 0) rfl, h⟩) (fun Q h => ⟨_, rfl, h⟩) rfl (ite2 (fun c => ?_) (fun c => ?_))⟩
        · rw [Bool.and_eq_true, decide_eq_true_eq, decide_eq_true_eq] at c
          have nWt : tt ≠ W := fun z => by rw [z, eM] at ett; cases ett
          refine ⟨.ref tt, rfl, _, eM, Nat.lt_of_le_of_lt (by omega : _ ≤ 3000) (by decide), kM.upd nW, ws ++ [.ref tt], cs ++ [y0 :: r0], upd_same, by rw [List.length_append]; show ws.length + 1 ≤ _; omega, ?_, by rw [List.length_append]; show cs.length + 1 ≤ _; omega, fun x => ?_⟩
          · rw [List.map_append]
            exact lst_step dM (Keep.refl _ _) (.tup (fun m => nWt (List.mem_singleton.mp m)) ett (Dts.ints _))
          · rw [List.mem_append, List.mem_singleton, hc x, tk x]
            constructor
            · rintro (⟨m, h⟩ | rfl)
              · exact ⟨.inl m, h⟩
              · exact ⟨.inr rfl, c⟩
            · rintro ⟨m | rfl, h⟩
              · exact .inl ⟨m, h⟩
              · exact .inr rfl
        · rw [Bool.and_eq_true, decide_eq_true_eq, decide_eq_true_eq] at c
          refine ⟨kM, ws, cs, eM, by omega, dM, by omega, fun x => (hc x).trans ⟨fun z => ⟨(tk x).mpr (.inl z.1), z.2⟩, fun z => ⟨((tk x).mp z.1).elim id (fun e => ?_), z.2⟩⟩⟩
          rw [e] at z
          exact absurd z.2 c
      · obtain ⟨kM, ws, cs, eM, lw, dM, lc, hc⟩ := z
        have lv2 : vs.length = bs.length := by rw [dv.len, List.length_map]
        refine q M W ws cs (kG.trans kM) (kG.fr nW) eM dM.any (by omega) (fun x => (hc x).trans ?_)
        rw [lv2, List.take_length, hb' x]
        unfold BarL
        refine and_congr_left' ⟨fun ⟨t, c, _, h⟩ => ⟨t, c, h⟩, fun ⟨t, c, gc, h⟩ => ⟨t, c, by have := (List.getElem?_eq_some_iff.mp gc).1; omega, gc, h⟩⟩
end
end Rw

namespace Rw
open PySem PySem.Spec PyProof.Rows L2
def FI (W : Addr) (H : Hp) (ok : Nat → Bool) (i : Nat) (J : Hp) : Prop := Keep [] H J ∧ ∃ ws, J W = some (.lst ws) ∧ ws.length ≤ i ∧ ws.isEmpty = (List.range i).all ok
theorem stS2 {H : Hp} {p b : Addr} {o u : HO} (n : H p = none) (e : H b = some u) : (upd H p o) b = some u := by rw [upd_ne (ne_of_none e n)]; exact e
theorem FI.start {W : Addr} {H : Hp} {ok : Nat → Bool} (n : H W = none) : FI W H ok 0 (upd H W (.lst [])) := ⟨Keep.new n, [], upd_same, Nat.le_refl _, rfl⟩
theorem FI.skip {W : Addr} {H J : Hp} {ok : Nat → Bool} {i : Nat} (h : FI W H ok i J) (o : ok i = true) : FI W H ok (i + 1) J := by
  obtain ⟨k, ws, e, l, z⟩ := h
  refine ⟨k, ws, e, by omega, ?_⟩
  rw [List.range_succ, List.all_append, z, List.all_cons, o]; simp
theorem FI.put {W : Addr} {H J J2 : Hp} {ok : Nat → Bool} {i : Nat} {x : V} (h : FI W H ok i J) (k2 : Keep [] J J2) (n : H W = none) (hi : i ≤ 100000) (o : ok i = false) : ∃ acc, J2 W = some (.lst acc) ∧ acc.length < sizeLine ∧ FI W H ok (i + 1) (upd J2 W (.lst (acc ++ [x]))) := by
  obtain ⟨k, ws, e, l, z⟩ := h
  refine ⟨ws, k2.same W _ e, by rw [sizeLine_eq]; omega, (k.trans k2).upd n, ws ++ [x], upd_same, by rw [List.length_append, List.length_singleton]; omega, ?_⟩
  rw [List.range_succ, List.all_append, List.all_cons, o]
  cases ws <;> simp
theorem FI.go {W : Addr} {H J J2 : Hp} {ok : Nat → Bool} {i : Nat} (h : FI W H ok i J) (k2 : Keep [] J J2) : FI W H ok i J2 := by
  obtain ⟨k, ws, e, l, z⟩ := h
  exact ⟨k.trans k2, ws, k2.same W _ e, l, z⟩
/-! ### same, of the same data twice: numbers, truths, tuples and lists of these -/
theorem kit_lst_lt {K : PySem.W.Frag} : PySem.W.kitAny K (.type "list") [.type "list", .type "tuple"] = some true :=
  kitAny_cons (kit_ty (r := true) (by decide +kernel)) (fun e => by cases e) (fun _ => rfl)
theorem kit_bool_lt {K : PySem.W.Frag} : PySem.W.kitAny K (.type "bool") [.type "list", .type "tuple"] = some false :=
  kitAny_cons (kit_ty (r := false) (by decide +kernel)) (fun _ => kitAny_cons (kit_ty (r := false) (by decide +kernel)) (fun _ => rfl) (fun e => by cases e)) (fun e => by cases e)
inductive IB : Nat → PyData → Prop
  | int (m : Nat) (i : Int) : IB m (.int i)
  | bool (m : Nat) (b : Bool) : IB m (.bool b)
  | tup {m : Nat} {ds : List PyData} : ds.length ≤ 1000 → (∀ d ∈ ds, IB m d) → IB (m + 1) (.tuple ds)
  | lst {m : Nat} {ds : List PyData} : ds.length ≤ 1000 → (∀ d ∈ ds, IB m d) → IB (m + 1) (.list ds)
end Rw

namespace Rw
open PySem PySem.Spec PyProof.Rows L2
/-! ### the program's own defs -/
section
variable {P : Program} {w : World} {K : PySem.W.Frag} {mg : Str → Option Value} {base : Heap}
abbrev sPlaceP : Stmt := topS 51
end
def isPlace (n : Int) (ps : List PyData) : PyData → Bool
  | .tuple [x] => within x 0 (n - 1)
  | .tuple [.int p, y] => within (.int p) 0 ((ps.length : Int) - 1) && within y 1 (lenOf (ps.getD p.toNat .none) - 1)
  | _ => false
section
variable {P : Program} {w : World} {K : PySem.W.Frag} {mg : Str → Option Value} {base : Heap}
theorem scPlaceP : FnScope ["house", "thing", "rooms", "pipes"] ["house", "thing"] (defScope sPlaceP) := ⟨rfl, rfl, rfl, by decide +kernel, rfl, by decide +kernel, by decide +kernel⟩
def spPlaceP : Sp := fun vs H Q _ => ∃ (h v : V) (n : Int) (ps : List PyData) (d : PyData) (a1 a2 : List Addr), vs = [h, v] ∧ Dt a1 H h (houseD n ps) ∧ PipesOk ps ∧ Dt a2 H v d ∧ Q (.bl (isPlace n ps d)) H
/-! the length of the pipe at a place of the list -/
theorem pipe_at {a1 : List Addr} {H : Hp} {xs : List V} {ps : List PyData} (hs : Dts a1 H xs ps) (hp : PipesOk ps) {i : Nat} (hi : i < ps.length) :
    ∃ pa ys, xs[i]? = some (.ref pa) ∧ H pa = some (.tup ys) ∧ ys[2]? = some (.int (lenOf (ps.getD i .none))) := by
  have e : ps[i]? = some ps[i] := List.getElem?_eq_getElem hi
  obtain ⟨v, ev, dv⟩ := hs.get i e
  obtain ⟨a, b, l, r, ep⟩ := hp ps[i] (List.getElem_mem hi)
  have eg : ps.getD i .none = .tuple (a :: b :: .int l :: r) := by
    rw [List.getD_eq_getElem?_getD, e, ← ep]; rfl
  rw [ep] at dv
  cases dv with
  | tup na ea da =>
    obtain ⟨u, eu, du⟩ := da.get 2 (d := .int l) rfl
    cases du
    refine ⟨_, _, ev, ea, ?_⟩
    rw [eg]; exact eu
theorem ok_placeP (h : Has K mg "is_place" sPlaceP) (B : Blt mg) (CT : Can P w K mg base "is_tuple_of" ["thing", "many"] 1 spTupOf) (CW : Can P w K mg base "is_within" ["thing", "low", "high"] 2 spWithin) :
    Can P w K mg base "is_place" ["house", "thing"] 3 spPlaceP := by
  obtain ⟨f, fd, F, g⟩ := h
  refine ⟨f, fd, F.ok (k := 2) scPlaceP (fun vs H Q E h => ?_) (fun cdv A outer s H vs Q E hr h => ?_), g, F.kp, F.binds fun _ _ _ _ _ _ us hl => match us, hl with | [_, _], _ => rfl⟩
  · obtain ⟨h, v, n, ps, d, a1, a2, rfl, _⟩ := h
    rfl
  · obtain ⟨h, v, n, ps, d, a1, a2, rfl, hh, hp, hd, q⟩ := h
    refine ⟨_, pss_cons (ps_asg (pv 0) (pg_tup (by rfl) (pgs_cons (pg_name (i := 2) scPlaceP.nd rfl (.inl rfl)) (pgs_cons (pg_name (i := 3) scPlaceP.nd rfl (.inl rfl)) pgs_nil))))
      (pss_cons (ps_if (pt_val (pe_can CT (hr.mono (by decide)) (by rfl) (pa_cons (pv 1) (pa_cons pe_int pa_nil))))
        (pss_one (ps_ret (pe_can CW hr (by rfl) (pa_cons (pe_ix ix_tup (pv 1) pe_int (fun _ _ => rfl)) (pa_cons pe_int (pa_cons (pe_op op_sub (pv 2) pe_int) pa_nil)))))) pss_nil)
      (pss_cons (ps_if (PW.pt (pw_or (pt_not (pt_val (pe_can CT (hr.mono (by decide)) (by rfl) (pa_cons (pv 1) (pa_cons pe_int pa_nil)))))
          (pw_or1 (pt_not (pt_val (pe_can CW hr (by rfl) (pa_cons (pe_ix ix_tup (pv 1) pe_int (fun _ _ => rfl)) (pa_cons pe_int (pa_cons (pe_op op_sub (pe_callB call_len_seq (by rfl) B.len_ PySem.boot_len (pa_cons (pv 3) pa_nil)) pe_int) pa_nil)))))))))
        (pss_one (ps_ret pe_bl)) pss_nil)
      (pss_one (ps_ret (pe_can CW hr (by rfl) (pa_cons (pe_ix ix_tup (pv 1) pe_int (fun _ _ => rfl)) (pa_cons pe_int (pa_cons (pe_op op_sub (pe_ix ix_tup (pe_ix ix_tup (pv 3) (pe_ix ix_tup (pv 1) pe_int (fun _ _ => rfl)) (fun _ _ => rfl)) pe_int (fun _ _ => rfl)) pe_int) pa_nil)))))))), ?_⟩
    cases hh with
    | tup na ea da =>
      rename_i ah xh
      cases da with
      | cons d1 da =>
        cases d1
        cases da with
        | cons d2 da =>
          cases da
          cases d2 with
          | tup nb eb db =>
            rename_i ap xp
            refine ⟨.ref ah, rfl, ah, [.int n, .ref ap], rfl, SqT.of ea, rfl, _, _, rfl, _, [], rfl, rfl, ?_⟩
            refine ⟨v, rfl, v, d, a2, 1, rfl, hd, _, rfl, ite2 (fun e => ?_) (fun e => ?_)⟩
            · -- one part
              cases hd <;> first | (cases e; done) | (cases hf; done) | skip
              rename_i a xs ds na' ea' hs
              have e1 : (ds.length : Int) = 1 := of_decide_eq_true e
              obtain ⟨x, rfl⟩ : ∃ x, ds = [x] := by
                cases ds with
                | nil => exact absurd e1 (by decide)
                | cons x r => cases r with
                  | nil => exact ⟨x, rfl⟩
                  | cons y r => exact absurd e1 (by rw [List.length_cons, List.length_cons]; omega)
              obtain ⟨y, ey, dy⟩ := hs.get 0 (d := x) rfl
              refine ⟨.ref a, rfl, a, xs, 0, y, rfl, rfl, SqT.of ea', atI_nat (j := 0) ey, .int n, rfl, n, 1, rfl, rfl, y, x, a2, 0, n - 1, rfl, dy, ?_⟩
              exact q
            · refine ⟨v, rfl, v, d, a2, 2, rfl, hd, _, rfl, ite2 (fun e2 => ?_) (fun e2 => ?_)⟩
              · have z : false = isPlace n ps d := by
                  cases d <;> first | rfl | skip
                  rename_i ds
                  cases ds with
                  | nil => rfl
                  | cons x r => cases r with
                    | nil => exact absurd rfl e
                    | cons y r => cases r with
                      | nil => cases e2
                      | cons _ _ => cases x <;> rfl
                rw [← z] at q; exact q
              · have e2' : tupOf d 2 = true := by
                  cases hq : tupOf d 2 with
                  | true => rfl
                  | false => rw [hq] at e2; exact absurd rfl e2
                cases hd <;> first | (cases e2'; done) | (cases hf; done) | skip
                rename_i a xs ds na' ea' hs
                have e1 : (ds.length : Int) = 2 := of_decide_eq_true e2'
                obtain ⟨x, y, rfl⟩ : ∃ x y, ds = [x, y] := by
                  match ds, e1 with
                  | [x, y], _ => exact ⟨x, y, rfl⟩
                  | [], e => exact absurd e (by decide)
                  | [_], e => simp at e
                  | _ :: _ :: _ :: _, e => rw [List.length_cons, List.length_cons, List.length_cons] at e; omega
                obtain ⟨vx, ex, dx⟩ := hs.get 0 (d := x) rfl
                obtain ⟨vy, ey, dy⟩ := hs.get 1 (d := y) rfl
                refine ⟨.ref a, rfl, a, xs, 0, vx, rfl, rfl, SqT.of ea', atI_nat (j := 0) ex, .ref ap, rfl, ap, xp, rfl, .inr (SqT.of eb), _, 1, rfl, rfl, vx, x, a2, 0, _, rfl, dx, _, rfl, ite2 (fun e3 => ?_) (fun e3 => ?_)⟩
                · have z : false = isPlace n ps (.tuple [x, y]) := by
                    cases x <;> first | rfl | skip
                    rename_i i
                    rw [db.len] at e3
                    show _ = (within (.int i) 0 ((ps.length : Int) - 1) && _)
                    rw [(Bool.not_eq_true' _).mp e3]; rfl
                  rw [← z] at q; exact q
                · rw [db.len] at e3
                  have e4 : within x 0 ((ps.length : Int) - 1) = true := by
                    cases hq : within x 0 ((ps.length : Int) - 1) with
                    | true => rfl
                    | false => rw [hq] at e3; exact absurd rfl e3
                  cases dx <;> first | (cases e4; done) | skip
                  rename_i i
                  have b1 : 0 ≤ i ∧ i ≤ (ps.length : Int) - 1 := by
                    have := (Bool.and_eq_true _ _).mp (show (decide (0 ≤ i) && decide (i ≤ (ps.length : Int) - 1)) = true from e4)
                    exact ⟨of_decide_eq_true this.1, of_decide_eq_true this.2⟩
                  obtain ⟨pa, ys, g1, g2, g3⟩ := pipe_at db hp (i := i.toNat) (by omega)
                  have ei : ((i.toNat : Nat) : Int) = i := by omega
                  refine ⟨.ref a, rfl, a, xs, 1, vy, rfl, rfl, SqT.of ea', atI_nat (j := 1) ey, .ref ap, rfl, .ref a, rfl, a, xs, 0, .int i, rfl, rfl, SqT.of ea', atI_nat (j := 0) ex, ap, xp, i, .ref pa, rfl, rfl, SqT.of eb, ?_, pa, ys, 2, _, rfl, rfl, SqT.of g2, atI_nat (j := 2) g3, _, 1, rfl, rfl, vy, y, a2, 1, _, rfl, dy, ?_⟩
                  · rw [← ei]; exact atI_nat g1
                  · have z : within y 1 (lenOf (ps.getD i.toNat .none) - 1) = isPlace n ps (.tuple [.int i, y]) := by
                      show _ = (within (.int i) 0 ((ps.length : Int) - 1) && within y 1 (lenOf (ps.getD i.toNat .none) - 1))
                      rw [e4, Bool.true_and]
                    rw [← z] at q; exact q
end
theorem pis_ok (ps : List Pi) : PipesOk (ps.map Pi.dat) := fun p hp => by
  obtain ⟨q, _, rfl⟩ := List.mem_map.mp hp
  exact ⟨_, _, _, _, rfl⟩
theorem ok_isPlace {n : Int} {ps : List Pi} {p : Pl} (h : okP n ps p) : isPlace n (ps.map Pi.dat) (tupI p) = true := by
  rcases ok_cases h with ⟨r, rfl, r0, r1⟩ | ⟨i, a, rfl, h0, h1, a0, a1⟩
  · show (decide (0 ≤ r) && decide (r ≤ n - 1)) = true
    rw [decide_eq_true r0, decide_eq_true (show r ≤ n - 1 by omega)]; rfl
  · have el : lenOf ((ps.map Pi.dat).getD i.toNat .none) = (pr ps i).l := by
      rw [List.getD_eq_getElem?_getD, List.getElem?_map, (pr_mem h0 h1).2]; rfl
    show ((decide (0 ≤ i) && decide (i ≤ ((ps.map Pi.dat).length : Int) - 1)) && (decide (1 ≤ a) && decide (a ≤ lenOf ((ps.map Pi.dat).getD i.toNat .none) - 1))) = true
    rw [el, List.length_map, decide_eq_true h0, decide_eq_true (show i ≤ (ps.length : Int) - 1 by omega), decide_eq_true a0, decide_eq_true a1]; rfl
end Rw

namespace Rw
open PySem PySem.Spec PyProof.Rows L2
/-! ### try: body, except A as n: .., except B as n: .. -/
abbrev Cl := Value × (Addr → Value → Option Addr → TS)
def offN (i : Nat) (D : Ends) : Ends := { nx := fun σ H => D.nx (σ.set i none) H, rt := D.rt, bk := fun σ H => D.bk (σ.set i none) H, ct := fun σ H => D.ct (σ.set i none) H }
def wAsM (K : PySem.W.Frag) (i : Nat) (Wo : WX) (D : Ends) : List Cl → WX
  | [] => Wo
  | c :: r => fun cls d σ H => ∃ b, PySem.W.exmOne K cls c.1 = some b ∧ (b = true → ∀ a, H a = none → c.2 a cls d (offN i D) (σ.set i (some (.ref a))) H) ∧ (b = false → wAsM K i Wo D r cls d σ H)
inductive AsOk (X : Cx) (n : Str) : List ExceptHandler → List Cl → Prop
  | nil : AsOk X n [] []
  | cons {x : Str} {c : Value} {ts : Addr → Value → Option Addr → TS} {b0 : Stmt} {su : List Stmt} {np pp : Pos} {hds : List ExceptHandler} {l : List Cl} (hc : Names X x c)
      (hsu : ∀ (a : Addr) (oe : Obj) (cls : Value) (d : Option Addr) (pn : List (Addr × Obj)), Zc cls d oe → (∃ vs, oe.data = .fields vs) → PSs (X.suite a ((a, oe) :: pn)) (b0 :: su) (ts a cls d)) (r : AsOk X n hds l) :
      AsOk X n (.ExceptHandler (some (.Name x np)) (some n) (b0 :: su) pp :: hds) ((c, ts) :: l)
section
variable {X : Cx} {pins : List (Addr × Obj)} {σ : L2.St} {H : Hp} {i : Nat} {n : Str} {D : Ends} {Wo : WX} {B : Heap} {a : Addr} {cls : Value} {d : Option Addr} {sI s1 : Shared} {h3 : Heap}
/-! what is caught is in no frame -/
theorem caught_off {l : List Env} {h : Heap} {o : Obj} {vs : Array Value} (ff : h.FunFrames B l) (e : h.get? a = some o) (dd : o.data = .fields vs) : a ∉ frs l := fun m => by
  obtain ⟨_, o', e', no⟩ := ff.mem m
  rw [e] at e'; cases e'
  exact no _ dd
/-! the clauses, one behind another -/
theorem as_clauses (ok : X.Ok) (hs : X.stack = X.env :: X.outer) (hf : X.env.frame = some X.env.locals) (hN : X.N.Nodup) (hi : X.N[i]? = some n) (hln : X.env.kindOf n = some .local) (tk : Takes X Wo)
    (J : Inv X pins σ H sI) (nb : ∀ b o, sI.heap.get? b = some o → b ∉ frs X.stack → B.get? b = some o) (up : sI.heap.UpToSlots h3) (fl : HandSPX.FlyingZ B (X.env :: X.outer) a (Zc cls d) h3) (na : H a = none) (os : s1.os = sI.os) (ag : AllBare s1.gens) :
    ∀ {hds : List ExceptHandler} {l : List Cl}, AsOk X n hds l → wAsM X.K i Wo D l cls d σ H → wpAny (model X.prog X.w) X.A (handleBy (.ref a) X.env hds) (L2.SP X pins D) X.xe { s1 with heap := h3 } := by
  have J3 : Inv X pins σ H { s1 with heap := h3 } := J.landed nb fl.1 up os ag
  obtain ⟨oe, vs, he, hz, hd⟩ := fl.there
  have off := caught_off fl.2.2.1 he hd
  have nL : a ≠ X.env.locals := fun z => off (List.mem_filterMap.mpr ⟨X.env, List.mem_cons_self, by rw [hf, z]⟩)
  have nF : a ∉ X.fs := fun m => by
    obtain ⟨e, me, q⟩ := List.mem_filterMap.mp m
    exact off (List.mem_filterMap.mpr ⟨e, List.mem_cons_of_mem _ me, q⟩)
  have S3 := J3.suite he hd na nL nF
  intro hds l hk
  induction hk with
  | nil =>
    intro wish
    obtain ⟨_, _, _, oe', vs', T, oT, ts', he', _, hd', h1, _⟩ := id fl
    have fly : wpAny (model X.prog X.w) X.A (setFlight (.ref a) X.env.frame) (fun _ s4 => wpAny (model X.prog X.w) X.A (throw (.ref a) : Sem Flow) (L2.SP X pins D) X.xe s4) X.xe { s1 with heap := h3 } := by
      rw [hf]
      exact HandSPX.setFlight_upZ fl fun h4 held up4 => wpAny_throw (tk _ _ ⟨a, B, sI, pins, σ, H, cls, d, rfl, J, nb, up.trans up4, .inr (.inr (by rw [hs]; exact held)), na, os, ag, wish⟩)
    refine wpAny_handleBy_nil ?_
    unfold PySem.passOn
    refine wpAny_bind (wpAny_field he' hd' h1 ?_)
    rw [if_neg (show ¬ ((Value.ref T == Value.none) = true) by simp)]
    first | exact wpAny_bind fly | exact wpAny_bind (wpAny_pure (wpAny_bind fly))
  | @cons x c ts b0 su np pp hds2 l2 hc hsu _ ih =>
    intro wish
    obtain ⟨b, hb, yes, no⟩ := wish
    have ty : PySem.W.Looks (model X.prog X.w) h3 (typeOf (.ref a)) cls := fun _ _ _ _ k q => wpAny_typeOf_ref (k _ _ he) (by rw [hz.1]; exact q)
    have mt := PySem.W.exm_one (M := model X.prog X.w) J3.kIn ty hb
    have nam : ∀ {Q : Value → Shared → Prop} {E : Value → Shared → Prop}, Q c { s1 with heap := h3 } → wpAny (model X.prog X.w) (X.A.mark (some (.ref a))) (eval (.Name x np) X.env) Q E { s1 with heap := h3 } := fun {Q E} q => by
      obtain ⟨g1, g2, m | ⟨m1, m2, m3⟩⟩ := hc
      · exact ld_glob (X := X.suite a ((a, oe) :: (X.pn ++ pins))) S3 g1 m q g2
      · exact ld_blt (X := X.suite a ((a, oe) :: (X.pn ++ pins))) S3 g1 m1 m2 q m3 g2
    refine wpAny_handleBy_cons (codeAny_handlers_test (nam (mt.here ?_))) (fun q => by cases q)
    cases b with
    | false => exact ih (no rfl)
    | true =>
      refine codeAny_handlers_suite_as (HandSPX.lands_againZ fl fun h4 fl4 up4 => ?_)
      obtain ⟨o4, v4, he4, hz4, hd4⟩ := fl4.there
      have S4 := (J.landed (s' := { s1 with heap := h4 }) nb fl4.1 (up.trans up4) os ag).suite he4 hd4 na nL nF
      refine store_ok (X := X.suite a ((a, o4) :: (X.pn ++ pins))) (v := .ref a) S4 hN hi (.inl hln) rfl (fun s5 S5 => ?_) (.inr hln)
      refine wpAny_mono ((hsu a o4 cls d (X.pn ++ pins) hz4 ⟨_, hd4⟩).run [] s5 _ H _ S5 (yes rfl a na)) (fun f s6 sp => ?_) (fun _ _ z => False.elim z)
      have gone : ∀ {σ6 : L2.St} {H6 : Hp} {Q : Shared → Prop}, Inv (X.suite a ((a, o4) :: (X.pn ++ pins))) [] σ6 H6 s6 → (∀ s7, Inv X pins (σ6.set i none) H6 s7 → Q s7) → wpAny (model X.prog X.w) X.A (do bindName X.env n .none; unbindBehindTheSuite X.env n pp) (fun _ s7 => Q s7) X.xe s6 :=
        fun S6 hq => gone_ok (S6.unsuite ok) hN hi hln hq
      match f, sp with
      | .next, ⟨_, _, S6, q6⟩ => exact gone S6 fun s7 J7 => ⟨_, _, J7, q6⟩
      | .brk, ⟨_, _, S6, q6⟩ => exact gone S6 fun s7 J7 => ⟨_, _, J7, q6⟩
      | .cont, ⟨_, _, S6, q6⟩ => exact gone S6 fun s7 J7 => ⟨_, _, J7, q6⟩
      | .ret _, ⟨_, _, _, S6, r6, q6⟩ => exact gone S6 fun s7 J7 => ⟨_, _, _, J7, r6, q6⟩
end
section
variable {X : Cx} {n : Str} {i : Nat} {body : List Stmt} {h0 : ExceptHandler} {hds : List ExceptHandler} {l : List Cl} {pos : Pos} {tb : WX → TS} {Wo : WX}
theorem ps_try_asM (hs : X.stack = X.env :: X.outer) (hf : X.env.frame = some X.env.locals) (hN : X.N.Nodup) (hi : X.N[i]? = some n) (hln : X.env.kindOf n = some .local) (tk : Takes X Wo)
    (hb : ∀ (W : WX) (pn : List (Addr × Obj)) (xe : Value → Shared → Prop), Takes (X.tr pn xe) W → PSs (X.tr pn xe) body (tb W))
    (hh : AsOk X n (h0 :: hds) l) : PS X (.Try body (h0 :: hds) [] [] pos) (fun D σ H => tb (wAsM X.K i Wo D l) D σ H) := by
  refine ⟨fun pins s σ H D I h => wpAny_Try_except ?_⟩
  have fr : X.A.frames = some (X.env :: X.outer) := by rw [I.ok.frames, hs]
  refine wpAny_mono ((hb (wAsM X.K i Wo D l) (X.pn ++ pins) (fun e s1 => wpAny (model X.prog X.w) X.A (noteFrame e X.env) (fun _ s2 => wpAny (model X.prog X.w) X.A (setFlight e none) (fun _ s3 =>
    wpAny (model X.prog X.w) X.A (handleBy e X.env (h0 :: hds)) (L2.SP X pins D) X.xe s3) X.xe s2) X.xe s1) (fun u s1 air => ?_)).run [] s σ H D (I.toTry _) h) (fun f s1 sp => ?_) (fun _ _ he => he)
  · obtain ⟨a, B, sI, pins', σ', H', cls, d, rfl, J', nb, up, sky, na, os, ag, wish⟩ := air
    have sky2 : Sky B (X.env :: X.outer) a (Zc cls d) X.env.locals s1.heap := by rw [← hs]; exact sky
    exact Sky.land Zc.steady fr hf sky2 fun h3 fl up3 => as_clauses (s1 := s1) I.ok hs hf hN hi hln tk (J'.ofTry I.ok) nb (up.trans up3) fl na os ag hh wish
  · match f, sp with
    | .next, ⟨σ', H', J', q⟩ => exact wpAny_execs_nil ⟨σ', H', J'.ofTry I.ok, q⟩
    | .brk, ⟨σ', H', J', q⟩ => exact ⟨σ', H', J'.ofTry I.ok, q⟩
    | .cont, ⟨σ', H', J', q⟩ => exact ⟨σ', H', J'.ofTry I.ok, q⟩
    | .ret _, ⟨v, σ', H', J', r, q⟩ => exact ⟨v, σ', H', J'.ofTry I.ok, r, q⟩
end
/-! ### isinstance of what was caught -/
structure ExI (K : PySem.W.Frag) (C : Addr) : Prop where
  cl : (PySem.W.clsIn K C).isSome = true
  ga : PySem.W.findIn K (.ref C) "__getattribute__" = some (some (.builtin "BaseException.__getattribute__"))
  gg : PySem.W.findIn K (.ref C) "__getattr__" = some none
  sb : PySem.W.subIn K (.ref C) (.type "BaseException") = some true
  cc : PySem.W.findIn K (.ref C) "__class__" = some (some (.builtin "object.__class__"))
  gs : PySem.W.specialIn K (.builtin "object.__class__") "__get__" = some (some (.builtin "getset_descriptor.__get__"))
  tk : PySem.W.takesIn K (.builtin "object.__class__") = some true
  mo : PySem.W.mroIn K C (.type "object") = some true
section
variable {X : Cx} {a C : Addr} {oe : Obj} {d : Option Addr} {pn : List (Addr × Obj)}
/-! the caught one, as the library's isinstance wants it -/
theorem caught_inst {pins : List (Addr × Obj)} {σ : L2.St} {H : Hp} {s : Shared} (I : Inv (X.suite a ((a, oe) :: pn)) pins σ H s) (hz : Zc (.ref C) d oe) (hf : ∃ vs, oe.data = .fields vs) (hd : ∀ dd, d = some dd → ∃ fs, H dd = some (.xd fs)) : ∃ od, PySem.W.InstAt s.heap a oe C od := by
  obtain ⟨ha, _⟩ := I.pin (a, oe) (List.mem_append_left _ List.mem_cons_self)
  obtain ⟨vs, ev⟩ := hf
  have nc : PySem.W.notCls oe = true := by unfold PySem.W.notCls; rw [ev] <;> rfl
  cases d with
  | none => exact ⟨none, ha, hz.1, nc, by rw [hz.2]; trivial⟩
  | some dd =>
    obtain ⟨fs, e⟩ := hd dd rfl
    have hx : ObjOk X.prog X.w H s.heap dd (.xd fs) := I.hok dd _ e
    obtain ⟨mA, hns, _⟩ := hx
    obtain ⟨od, ho, _⟩ := lookIn_ns hns
    exact ⟨some od, ha, hz.1, nc, by rw [hz.2]; exact ho⟩
def rIsX (K : PySem.W.Frag) (C a : Addr) (cls : Value) (d : Option Addr) : List V → Hp → VK → Prop := fun xs H Q => cls = .ref C ∧ (∀ dd, d = some dd → ∃ fs, H dd = some (.xd fs)) ∧
  ((∃ (c : Addr) (b : Bool), xs = [.ref a, .ref c] ∧ PySem.W.kitOne K (.ref C) (.ref c) = some b ∧ Q (.bl b) H) ∨
    ∃ (tp : Addr) (cs : List Addr) (b : Bool), xs = [.ref a, .ref tp] ∧ H tp = some (.tup (cs.map V.ref)) ∧ PySem.W.kitAny K (.ref C) (cs.map Value.ref) = some b ∧ Q (.bl b) H)
theorem vals_refs : ∀ {cs : List Addr} {us : List Value}, Vals (cs.map V.ref) us → us = cs.map Value.ref
  | [], _, r => by cases r; rfl
  | c :: cs, _, r => by
    cases r with
    | cons r1 r2 => cases r1; rw [vals_refs r2]; rfl
theorem call_isX {cls : Value} (T : ExI X.K C) (hz : Zc cls d oe) (hf : ∃ vs, oe.data = .fields vs) : CallR (X.suite a ((a, oe) :: pn)) (.builtin "isinstance") (rIsX X.K C a cls d) := by
  intro pins s σ H xs us Q I r h
  obtain ⟨rfl, hd, h⟩ := h
  obtain ⟨od, J⟩ := caught_inst I hz hf hd
  have kx := PySem.W.kitx_exc (x := a) (ox := oe) (od := od) T.cl T.ga T.gg T.sb T.cc T.gs T.tk T.mo
  rcases h with ⟨c, b, rfl, e, q⟩ | ⟨tp, cs, b, rfl, et, e, q⟩
  · obtain ⟨u1, u2, rfl, r1, r2⟩ := vals2 r
    cases r1; cases r2
    exact PySem.W.kia_one kx I.kIn J e (fun z => nomatch z) fun tk => ⟨.bl b, H, I.kept (t' := tk) fun _ _ z => z, rfl, q⟩
  · obtain ⟨u1, u2, rfl, r1, r2⟩ := vals2 r
    cases r1; cases r2
    obtain ⟨its, rv, ⟨o, ho, hc, m, hdt⟩, _⟩ := I.tuple (SqT.of et)
    obtain rfl := vals_refs rv
    obtain ⟨oc, odd, odt, osl⟩ := o
    dsimp only at hc hdt
    subst hc hdt
    exact PySem.W.kia_tup kx I.kIn J ho e (fun z => nomatch z) fun tk => ⟨.bl b, H, I.kept (t' := tk) fun _ _ z => z, rfl, q⟩
end
end Rw

namespace Rw
open PySem PySem.Spec PyProof.Rows L2
/-! ### errors of the program that bear one thing -/
structure ErrT (K : PySem.W.Frag) (mg : Str → Option Value) (nm fld : Str) (C : Addr) : Prop where
  g : mg nm = some (.ref C)
  ox : OexC K C
  xf : XfC K C
  no : PySem.W.findIn K (.ref C) fld = some none
  ei : ExI K C
def spErr (fld : Str) (C : Addr) : Sp := fun vs H Q _ => ∃ (a : Addr) (v : V), vs = [.ref a, v] ∧ H a = some (exo a C none) ∧ ∀ dx, H dx = none → dx ≠ a → Q .non (upd (upd H dx (exd dx [(fld, v)])) a (exo a C (some dx)))
def CanE (P : Program) (w : World) (K : PySem.W.Frag) (mg : Str → Option Value) (base : Heap) (nm fld : Str) (C : Addr) : Prop :=
  ErrT K mg nm fld C ∧ ∃ fI fd, PySem.W.findIn K (.ref C) "__init__" = some (some (.ref fI)) ∧ PySem.W.typeIn K (.ref fI) = some (.type "function") ∧ FnOk P w K mg base CX0 1 fI fd ["self", fld] (spErr fld C) ∧ Binds K fd ["self", fld] []
theorem ps_raiseE {X : Cx} {W : WX} {nm fld : Str} {C : Addr} {e : Expr} {te : TE} {p pos pos' : Pos} (E : CanE X.prog X.w X.K X.mg X.base nm fld C) (hc : X.calm = true) (hr : Room 2 X.A) (tk : Takes X W) (hg : Gl X nm) (ha : PA X [e] (tCons te tNil))
    (hdb : (nm == ("__debug__" : Str)) = false := by decide) (he : starEach (e :: []) X.env = (false, eval e X.env) :: starEach [] X.env := by rfl) (hpl : (backTo pos (starEach [] X.env)).any (·.1) = false := by rfl) :
    PS X (.Raise (some (.Call (.Name nm p) [e] [] pos)) none pos') (fun _ σ H => tMkO C (spErr fld C) [] (tCons te tNil) σ H fun cls d H' => W cls d σ H') := by
  obtain ⟨T, fI, fd, iC, tI, F, b⟩ := E
  exact ps_raise hc tk (pmk_oex (x := nm) T.ox iC tI F hr b .nil pass0 hg T.g ha hdb he hpl)
theorem raise_fin {C : Addr} {fld : Str} {v : V} {H : Hp} {Q : XK} (h : ∀ d, H d = none → Q (.ref C) (some d) (upd H d (.xd [(fld, v)]))) :
    [v].length ≤ 1000 ∧ ∀ a, H a = none → spErr fld C (.ref a :: ([v] ++ [])) (upd H a (exo a C none))
      (fun u H2 => u = .non ∧ ∃ (d : Addr) (fs : List (Str × V)), H2 a = some (exo a C (some d)) ∧ H2 d = some (exd d fs) ∧ H d = none ∧ Q (.ref C) (some d) (upd (del H2 a) d (.xd fs))) (fun _ _ _ => False) := by
  refine ⟨by simp, fun a na => ⟨a, v, rfl, upd_same, fun dx nd ne => ⟨rfl, dx, [(fld, v)], upd_same, by rw [upd_ne ne, upd_same], ?_, ?_⟩⟩⟩
  · rw [upd_ne ne] at nd; exact nd
  · rw [upd_ne ne] at nd
    have e : upd (del (upd (upd (upd H a (exo a C none)) dx (exd dx [(fld, v)])) a (exo a C (some dx))) a) dx (.xd [(fld, v)]) = upd H dx (.xd [(fld, v)]) := by
      funext b
      by_cases h1 : b = dx
      · rw [h1, upd_same, upd_same]
      · rw [upd_ne h1, upd_ne h1]
        by_cases h2 : b = a
        · rw [h2, del_same, na]
        · rw [del_ne h2, upd_ne h2, upd_ne h1, upd_ne h2]
    rw [e]
    exact h dx nd
section
variable {P : Program} {w : World} {K : PySem.W.Frag} {mg : Str → Option Value} {base : Heap}
abbrev sENoEnd : Stmt := inClass (topS 35) 0
theorem scENoEnd : FnScope ["self", "end"] ["self", "end"] (defScope sENoEnd) := ⟨rfl, rfl, rfl, by decide +kernel, rfl, by decide +kernel, by decide +kernel⟩
theorem okENoEnd {C fI : Addr} {fd : FuncData} (F : Fun K "__init__" "NoEnd.__init__" sENoEnd fI fd) (T : ErrT K mg "NoEnd" "end" C) (iC : PySem.W.findIn K (.ref C) "__init__" = some (some (.ref fI))) (tI : PySem.W.typeIn K (.ref fI) = some (.type "function")) : CanE P w K mg base "NoEnd" "end" C := by
  refine ⟨T, fI, fd, iC, tI, F.ok (k := 0) scENoEnd (fun vs H Q E h => ?_) (fun cdv A outer s H vs Q E hr h => ?_), F.binds fun _ _ _ _ _ _ us hl => match us, hl with | [_, _], _ => rfl⟩
  · obtain ⟨a, v, rfl, _⟩ := h; rfl
  · obtain ⟨a, v, rfl, ea, q⟩ := h
    exact ⟨_, pss_one (ps_ost (pv 0) (pv 1)), v, rfl, .ref a, rfl, a, C, rfl, T.ox, T.no, .inl ⟨ea, q⟩⟩
abbrev sENoPlace : Stmt := inClass (topS 36) 0
theorem scENoPlace : FnScope ["self", "place"] ["self", "place"] (defScope sENoPlace) := ⟨rfl, rfl, rfl, by decide +kernel, rfl, by decide +kernel, by decide +kernel⟩
theorem okENoPlace {C fI : Addr} {fd : FuncData} (F : Fun K "__init__" "NoPlace.__init__" sENoPlace fI fd) (T : ErrT K mg "NoPlace" "place" C) (iC : PySem.W.findIn K (.ref C) "__init__" = some (some (.ref fI))) (tI : PySem.W.typeIn K (.ref fI) = some (.type "function")) : CanE P w K mg base "NoPlace" "place" C := by
  refine ⟨T, fI, fd, iC, tI, F.ok (k := 0) scENoPlace (fun vs H Q E h => ?_) (fun cdv A outer s H vs Q E hr h => ?_), F.binds fun _ _ _ _ _ _ us hl => match us, hl with | [_, _], _ => rfl⟩
  · obtain ⟨a, v, rfl, _⟩ := h; rfl
  · obtain ⟨a, v, rfl, ea, q⟩ := h
    exact ⟨_, pss_one (ps_ost (pv 0) (pv 1)), v, rfl, .ref a, rfl, a, C, rfl, T.ox, T.no, .inl ⟨ea, q⟩⟩
abbrev sEBack : Stmt := inClass (topS 37) 0
theorem scEBack : FnScope ["self", "place"] ["self", "place"] (defScope sEBack) := ⟨rfl, rfl, rfl, by decide +kernel, rfl, by decide +kernel, by decide +kernel⟩
theorem okEBack {C fI : Addr} {fd : FuncData} (F : Fun K "__init__" "Back.__init__" sEBack fI fd) (T : ErrT K mg "Back" "place" C) (iC : PySem.W.findIn K (.ref C) "__init__" = some (some (.ref fI))) (tI : PySem.W.typeIn K (.ref fI) = some (.type "function")) : CanE P w K mg base "Back" "place" C := by
  refine ⟨T, fI, fd, iC, tI, F.ok (k := 0) scEBack (fun vs H Q E h => ?_) (fun cdv A outer s H vs Q E hr h => ?_), F.binds fun _ _ _ _ _ _ us hl => match us, hl with | [_, _], _ => rfl⟩
  · obtain ⟨a, v, rfl, _⟩ := h; rfl
  · obtain ⟨a, v, rfl, ea, q⟩ := h
    exact ⟨_, pss_one (ps_ost (pv 0) (pv 1)), v, rfl, .ref a, rfl, a, C, rfl, T.ox, T.no, .inl ⟨ea, q⟩⟩
abbrev sEStuck : Stmt := inClass (topS 38) 0
theorem scEStuck : FnScope ["self", "knot"] ["self", "knot"] (defScope sEStuck) := ⟨rfl, rfl, rfl, by decide +kernel, rfl, by decide +kernel, by decide +kernel⟩
theorem okEStuck {C fI : Addr} {fd : FuncData} (F : Fun K "__init__" "Stuck.__init__" sEStuck fI fd) (T : ErrT K mg "Stuck" "knot" C) (iC : PySem.W.findIn K (.ref C) "__init__" = some (some (.ref fI))) (tI : PySem.W.typeIn K (.ref fI) = some (.type "function")) : CanE P w K mg base "Stuck" "knot" C := by
  refine ⟨T, fI, fd, iC, tI, F.ok (k := 0) scEStuck (fun vs H Q E h => ?_) (fun cdv A outer s H vs Q E hr h => ?_), F.binds fun _ _ _ _ _ _ us hl => match us, hl with | [_, _], _ => rfl⟩
  · obtain ⟨a, v, rfl, _⟩ := h; rfl
  · obtain ⟨a, v, rfl, ea, q⟩ := h
    exact ⟨_, pss_one (ps_ost (pv 0) (pv 1)), v, rfl, .ref a, rfl, a, C, rfl, T.ox, T.no, .inl ⟨ea, q⟩⟩
end
end Rw

namespace Rw
open PySem PySem.Spec PyProof.Rows L2
/-! ### errors of the program that bear two things -/
structure ErrT2 (K : PySem.W.Frag) (mg : Str → Option Value) (nm f1 f2 : Str) (C : Addr) : Prop where
  g : mg nm = some (.ref C)
  ox : OexC K C
  xf : XfC K C
  n1 : PySem.W.findIn K (.ref C) f1 = some none
  n2 : PySem.W.findIn K (.ref C) f2 = some none
  ei : ExI K C
def spErr2 (f1 f2 : Str) (C : Addr) : Sp := fun vs H Q _ => ∃ (a : Addr) (v1 v2 : V), vs = [.ref a, v1, v2] ∧ H a = some (exo a C none) ∧ ∀ dx, H dx = none → dx ≠ a → Q .non (upd (upd (upd H dx (exd dx [(f1, v1)])) a (exo a C (some dx))) dx (exd dx [(f2, v2), (f1, v1)]))
def CanE2 (P : Program) (w : World) (K : PySem.W.Frag) (mg : Str → Option Value) (base : Heap) (nm f1 f2 : Str) (C : Addr) : Prop :=
  ErrT2 K mg nm f1 f2 C ∧ ∃ fI fd, PySem.W.findIn K (.ref C) "__init__" = some (some (.ref fI)) ∧ PySem.W.typeIn K (.ref fI) = some (.type "function") ∧ FnOk P w K mg base CX0 1 fI fd ["self", f1, f2] (spErr2 f1 f2 C) ∧ Binds K fd ["self", f1, f2] []
theorem ps_raiseE2 {X : Cx} {W : WX} {nm f1 f2 : Str} {C : Addr} {e e2 : Expr} {te te2 : TE} {p pos pos' : Pos} (E : CanE2 X.prog X.w X.K X.mg X.base nm f1 f2 C) (hc : X.calm = true) (hr : Room 2 X.A) (tk : Takes X W) (hg : Gl X nm) (ha : PA X [e, e2] (tCons te (tCons te2 tNil)))
    (hdb : (nm == ("__debug__" : Str)) = false := by decide) (he : starEach (e :: [e2]) X.env = (false, eval e X.env) :: starEach [e2] X.env := by rfl) (hpl : (backTo pos (starEach [e2] X.env)).any (·.1) = false := by rfl) :
    PS X (.Raise (some (.Call (.Name nm p) [e, e2] [] pos)) none pos') (fun _ σ H => tMkO C (spErr2 f1 f2 C) [] (tCons te (tCons te2 tNil)) σ H fun cls d H' => W cls d σ H') := by
  obtain ⟨T, fI, fd, iC, tI, F, b⟩ := E
  exact ps_raise hc tk (pmk_oex (x := nm) T.ox iC tI F hr b .nil pass0 hg T.g ha hdb he hpl)
theorem raise_fin2 {C : Addr} {f1 f2 : Str} {v1 v2 : V} {H : Hp} {Q : XK} (h : ∀ d, H d = none → Q (.ref C) (some d) (upd H d (.xd [(f2, v2), (f1, v1)]))) :
    [v1, v2].length ≤ 1000 ∧ ∀ a, H a = none → spErr2 f1 f2 C (.ref a :: ([v1, v2] ++ [])) (upd H a (exo a C none))
      (fun u H2 => u = .non ∧ ∃ (d : Addr) (fs : List (Str × V)), H2 a = some (exo a C (some d)) ∧ H2 d = some (exd d fs) ∧ H d = none ∧ Q (.ref C) (some d) (upd (del H2 a) d (.xd fs))) (fun _ _ _ => False) := by
  refine ⟨by simp, fun a na => ⟨a, v1, v2, rfl, upd_same, fun dx nd ne => ⟨rfl, dx, [(f2, v2), (f1, v1)], by rw [upd_ne (Ne.symm ne), upd_same], by rw [upd_same], ?_, ?_⟩⟩⟩
  · rw [upd_ne ne] at nd; exact nd
  · rw [upd_ne ne] at nd
    have e : upd (del (upd (upd (upd (upd H a (exo a C none)) dx (exd dx [(f1, v1)])) a (exo a C (some dx))) dx (exd dx [(f2, v2), (f1, v1)])) a) dx (.xd [(f2, v2), (f1, v1)]) = upd H dx (.xd [(f2, v2), (f1, v1)]) := by
      funext b
      by_cases h1 : b = dx
      · rw [h1, upd_same, upd_same]
      · rw [upd_ne h1, upd_ne h1]
        by_cases h2 : b = a
        · rw [h2, del_same, na]
        · rw [del_ne h2, upd_ne h1, upd_ne h2, upd_ne h1, upd_ne h2]
    rw [e]
    exact h dx nd
section
variable {P : Program} {w : World} {K : PySem.W.Frag} {mg : Str → Option Value} {base : Heap}
abbrev sEShut : Stmt := inClass (topS 39) 0
theorem scEShut : FnScope ["self", "pipe", "at"] ["self", "pipe", "at"] (defScope sEShut) := ⟨rfl, rfl, rfl, by decide +kernel, rfl, by decide +kernel, by decide +kernel⟩
theorem okEShut {C fI : Addr} {fd : FuncData} (F : Fun K "__init__" "Shut.__init__" sEShut fI fd) (T : ErrT2 K mg "Shut" "pipe" "at" C) (iC : PySem.W.findIn K (.ref C) "__init__" = some (some (.ref fI))) (tI : PySem.W.typeIn K (.ref fI) = some (.type "function")) : CanE2 P w K mg base "Shut" "pipe" "at" C := by
  refine ⟨T, fI, fd, iC, tI, F.ok (k := 0) scEShut (fun vs H Q E h => ?_) (fun cdv A outer s H vs Q E hr h => ?_), F.binds fun _ _ _ _ _ _ us hl => match us, hl with | [_, _, _], _ => rfl⟩
  · obtain ⟨a, v1, v2, rfl, _⟩ := h; rfl
  · obtain ⟨a, v1, v2, rfl, ea, q⟩ := h
    exact ⟨_, pss_cons (ps_ost (pv 0) (pv 1)) (pss_one (ps_ost (pv 0) (pv 2))), v1, rfl, .ref a, rfl, a, C, rfl, T.ox, T.n1, .inl ⟨ea, fun dx nd ne => ⟨v2, rfl, .ref a, rfl, a, C, rfl, T.ox, T.n2, .inr ⟨dx, [("pipe", v1)], upd_same, by rw [upd_ne ne, upd_same], show 1 ≤ 900 by decide, q dx nd ne⟩⟩⟩⟩
end
end Rw

namespace Rw
open PySem PySem.Spec PyProof.Rows L2
/-! ### a leg: ends, stands, what bars it -/
def endP (e : Int) (s : Pl × Pl) : Pl := if e = 1 then s.2 else s.1
def withE (e : Int) (z y : Pl) : Pl × Pl := if e = 1 then (y, z) else (z, y)
def stD (s : Pl × Pl) : PyData := .tuple [tupI s.1, tupI s.2]
def Ahd (ps : List Pi) (d : Int → Int → Int) (l e : Int) (s : Pl × Pl) (z : Pl) : Prop := Dp ps d (endP e s) z ≠ 0 ∧ Dp ps d (endP (1 - e) s) z = l + Dp ps d (endP e s) z
def LBar (n : Int) (ps : List Pi) (d : Int → Int → Int) (l : Int) (ks : List (Int × Int)) (e : Int) (s : Pl × Pl) (z : Pl) (x : List Int) : Prop := Bar n ps d (endP (1 - e) s) z l (kfb l e ks) x ∧ 0 ≤ x.headD 0 ∧ x.headD 0 < Dp ps d (endP e s) z
theorem Bar.form {n : Int} {ps : List Pi} {d : Int → Int → Int} {p q : Pl} {l : Int} {kk : List (Int × Int)} {x : List Int} (h : Bar n ps d p q l kk x) : (∃ y i a, x = [y, 0, i, a]) ∨ ∃ y num, x = [y, 1, num] := by
  rcases h with ⟨y, i, a, _, e⟩ | ⟨y, w, num, ah, sz, _, _, _, e⟩
  · exact .inl ⟨_, _, _, e⟩
  · exact .inr ⟨_, _, e⟩
/-! the least of some rows, by their own order -/
theorem lt_irr : ∀ a : List Int, ¬ PySem.W.listLt a a = true
  | [] => fun h => (nomatch h)
  | x :: a => fun h => by
    have u : PySem.W.listLt (x :: a) (x :: a) = if x = x then PySem.W.listLt a a else PySem.W.DatumOrd.lt x x := rfl
    rw [u, if_pos rfl] at h
    exact lt_irr a h
theorem lt_asym : ∀ a b : List Int, PySem.W.listLt a b = true → ¬ PySem.W.listLt b a = true
  | [], [], h => (nomatch h)
  | [], _ :: _, _ => fun z => (nomatch z)
  | x :: a, [], h => (nomatch h)
  | x :: a, y :: b, h => fun z => by
    have u : PySem.W.listLt (x :: a) (y :: b) = if x = y then PySem.W.listLt a b else decide (x < y) := rfl
    have v : PySem.W.listLt (y :: b) (x :: a) = if y = x then PySem.W.listLt b a else decide (y < x) := rfl
    rw [u] at h
    rw [v] at z
    by_cases e : x = y
    · rw [if_pos e] at h
      rw [if_pos e.symm] at z
      exact lt_asym a b h z
    · rw [if_neg e] at h
      rw [if_neg (fun w => e w.symm)] at z
      have := of_decide_eq_true h
      have := of_decide_eq_true z
      omega
theorem lt_neg_trans : ∀ a b c : List Int, ¬ PySem.W.listLt b a = true → ¬ PySem.W.listLt c b = true → ¬ PySem.W.listLt c a = true
  | [], b, c, h1, h2 => fun z => by cases c <;> exact nomatch z
  | x :: a, [], c, h1, h2 => absurd rfl h1
  | x :: a, y :: b, [], h1, h2 => absurd rfl h2
  | x :: a, y :: b, t :: c, h1, h2 => fun z => by
    have u : PySem.W.listLt (y :: b) (x :: a) = if y = x then PySem.W.listLt b a else decide (y < x) := rfl
    have v : PySem.W.listLt (t :: c) (y :: b) = if t = y then PySem.W.listLt c b else decide (t < y) := rfl
    have w : PySem.W.listLt (t :: c) (x :: a) = if t = x then PySem.W.listLt c a else decide (t < x) := rfl
    rw [u] at h1
    rw [v] at h2
    rw [w] at z
    have n1 : y = x ∧ ¬ PySem.W.listLt b a = true ∨ x < y := by
      by_cases e : y = x
      · rw [if_pos e] at h1; exact .inl ⟨e, h1⟩
      · rw [if_neg e, decide_eq_true_eq] at h1; exact .inr (by omega)
    have n2 : t = y ∧ ¬ PySem.W.listLt c b = true ∨ y < t := by
      by_cases e : t = y
      · rw [if_pos e] at h2; exact .inl ⟨e, h2⟩
      · rw [if_neg e, decide_eq_true_eq] at h2; exact .inr (by omega)
    by_cases e : t = x
    · rw [if_pos e] at z
      rcases n1 with ⟨e1, n1⟩ | n1 <;> rcases n2 with ⟨e2, n2⟩ | n2 <;> first | exact lt_neg_trans a b c n1 n2 z | omega
    · rw [if_neg e, decide_eq_true_eq] at z
      rcases n1 with ⟨e1, n1⟩ | n1 <;> rcases n2 with ⟨e2, n2⟩ | n2 <;> omega
theorem minL_least : ∀ (nss : List (List Int)) (ns : List Int), ∀ y ∈ ns :: nss, ¬ PySem.W.listLt y (minL ns nss) = true := by
  intro nss
  unfold minL
  induction nss with
  | nil => intro ns y hy; rw [List.mem_singleton.mp hy]; exact lt_irr _
  | cons z r ih =>
    intro ns y hy
    rw [List.foldl_cons]
    by_cases h : PySem.W.listLt z ns = true
    · rw [if_pos h]
      have k := ih z
      rcases List.mem_cons.mp hy with rfl | hy
      · exact lt_neg_trans _ _ _ (k z List.mem_cons_self) (lt_asym _ _ h)
      · exact k y hy
    · rw [if_neg h]
      have k := ih ns
      rcases List.mem_cons.mp hy with rfl | hy
      · exact k y List.mem_cons_self
      · rcases List.mem_cons.mp hy with rfl | hy
        · exact lt_neg_trans _ _ _ (k ns List.mem_cons_self) h
        · exact k y (List.mem_cons_of_mem _ hy)
/-! what is a place of the house -/
theorem isPlace_ok {n : Int} {ps : List Pi} {d : PyData} (h : isPlace n (ps.map Pi.dat) d = true) : ∃ z, d = tupI z ∧ okP n ps z := by
  have wi : ∀ {d : PyData} {lo hi : Int}, within d lo hi = true → ∃ i, d = .int i ∧ lo ≤ i ∧ i ≤ hi := fun {d lo hi} h => by
    cases d with
    | int i =>
      have h' : (decide (lo ≤ i) && decide (i ≤ hi)) = true := h
      rw [Bool.and_eq_true] at h'
      exact ⟨i, rfl, of_decide_eq_true h'.1, of_decide_eq_true h'.2⟩
    | none => cases h
    | bool _ => cases h
    | str _ => cases h
    | list _ => cases h
    | tuple _ => cases h
    | dict _ => cases h
  unfold isPlace at h
  split at h
  · obtain ⟨i, rfl, i0, i1⟩ := wi h
    exact ⟨[i], rfl, i0, by omega⟩
  · rename_i p y
    rw [Bool.and_eq_true] at h
    obtain ⟨i, e, i0, i1⟩ := wi h.1
    cases e
    obtain ⟨a, rfl, a0, a1⟩ := wi h.2
    rw [List.length_map] at i1
    have el : lenOf ((ps.map Pi.dat).getD p.toNat .none) = (pr ps p).l := by
      rw [List.getD_eq_getElem?_getD, List.getElem?_map, (pr_mem i0 (by omega)).2]; rfl
    rw [el] at a1
    exact ⟨[p, a], rfl, i0, by omega, a0, a1⟩
  · cases h
theorem wi_int {d : PyData} {lo hi : Int} (h : within d lo hi = true) : ∃ i, d = .int i ∧ lo ≤ i ∧ i ≤ hi := by
  cases d with
  | int i =>
    have h' : (decide (lo ≤ i) && decide (i ≤ hi)) = true := h
    rw [Bool.and_eq_true] at h'
    exact ⟨i, rfl, of_decide_eq_true h'.1, of_decide_eq_true h'.2⟩
  | none => cases h
  | bool _ => cases h
  | str _ => cases h
  | list _ => cases h
  | tuple _ => cases h
  | dict _ => cases h
theorem stD_at {av : List Addr} {H : Hp} {v : V} {s : Pl × Pl} (h : Dt av H v (stD s)) : ∃ (a : Addr) (v1 v2 : V), v = .ref a ∧ a ∉ av ∧ H a = some (.tup [v1, v2]) ∧ Dt av H v1 (tupI s.1) ∧ Dt av H v2 (tupI s.2) := by
  obtain ⟨a, ys, rfl, na, ea, dy⟩ := tup_at (show Dt av H v (.tuple [tupI s.1, tupI s.2]) from h)
  cases dy with
  | cons d1 dy => cases dy with
    | cons d2 dy =>
      cases dy
      exact ⟨a, _, _, rfl, na, ea, d1, d2⟩
theorem ropeD_at {av : List Addr} {H : Hp} {v : V} {l : Int} {ks : List (Int × Int)} (h : Dt av H v (ropeD l ks)) : ∃ (a T : Addr), v = .ref a ∧ a ∉ av ∧ H a = some (.tup [.int l, .ref T]) ∧ Dt av H (.ref T) (.tuple (ks.map prD)) := by
  obtain ⟨a, ys, rfl, na, ea, dy⟩ := tup_at (show Dt av H v (.tuple [.int l, .tuple (ks.map prD)]) from h)
  cases dy with
  | cons d1 dy => cases dy with
    | cons d2 dy =>
      cases dy
      cases d1
      obtain ⟨T, _, rfl, _⟩ := tup_at d2
      exact ⟨a, T, rfl, na, ea, d2⟩
theorem Tr.k1 {av : List Addr} {H H' : Hp} (t : Tr av H) (k : Keep [] H H') : Tr av H' := fun a m => by
  obtain ⟨o, e⟩ := t a m
  exact ⟨o, k a o e List.not_mem_nil⟩
section
variable {P : Program} {w : World} {K : PySem.W.Frag} {mg : Str → Option Value} {base : Heap}
abbrev sRfs : Stmt := topS 56
abbrev nRfs : List Str := ["bar"]
theorem scRfs : FnScope nRfs ["bar"] (defScope sRfs) := ⟨rfl, rfl, rfl, by decide +kernel, rfl, by decide +kernel, by decide +kernel⟩
def BarE (CS CT : Addr) (x : List Int) (H : Hp) (E : XK) : Prop := (∀ y i a, x = [y, 0, i, a] → ∀ dx, H dx = none → E (.ref CS) (some dx) (upd H dx (.xd [("at", .int a), ("pipe", .int i)]))) ∧ (∀ y num, x = [y, 1, num] → ∀ dx, H dx = none → E (.ref CT) (some dx) (upd H dx (.xd [("knot", .int num)])))
def spRfs (CS CT : Addr) : Sp := fun vs H Q E => ∃ (b : Addr) (x : List Int), vs = [.ref b] ∧ H b = some (.tup (x.map V.int)) ∧ ((∃ y i a, x = [y, 0, i, a]) ∨ ∃ y num, x = [y, 1, num]) ∧ BarE CS CT x H E
theorem ok_rfs (h : Has K mg "refuse" sRfs) (cS : ∃ t, mg "SHUT" = some (.int 0 t)) {CShut : Addr} (EShut : CanE2 P w K mg base "Shut" "pipe" "at" CShut) {CStuck : Addr} (EStuck : CanE P w K mg base "Stuck" "knot" CStuck) : CanX P w K mg base "refuse" ["bar"] 3 (spRfs CShut CStuck) := by
  obtain ⟨f, fd, F, g⟩ := h
  refine ⟨f, fd, F.okX (k := 2) scRfs (fun vs H Q E h => ?_) (fun cdv A outer s H vs Q E hr h => ?_), g, F.kp, F.binds fun _ _ _ _ _ _ us hl => match us, hl with | [_], _ => rfl⟩
  · obtain ⟨b, x, rfl, _⟩ := h
    rfl
  · obtain ⟨b, x, rfl, eb, fx, q1, q2⟩ := h
    refine ⟨_, pss_cons (ps_if (pt_cmpR op_eq (pe_ix ix_tup (pv 0) pe_int (fun _ _ => rfl)) (pe_glob (v := .int 0) rfl cS.choose_spec ⟨_, rfl⟩) (nomark _)) (pss_one (ps_raiseE2 EShut rfl (hr.mono (by decide)) (takes_of rfl rfl rfl rfl) (by rfl) (pa_cons (pe_ix ix_tup (pv 0) pe_int (fun _ _ => rfl)) (pa_cons (pe_ix ix_tup (pv 0) pe_int (fun _ _ => rfl)) pa_nil)))) pss_nil)
      (pss_one (ps_raiseE EStuck rfl (hr.mono (by decide)) (takes_of rfl rfl rfl rfl) (by rfl) (pa_cons (pe_ix ix_tup (pv 0) pe_int (fun _ _ => rfl)) pa_nil))), ?_⟩
    rcases fx with ⟨y, i, a, rfl⟩ | ⟨y, num, rfl⟩
    · refine ⟨.ref b, rfl, b, _, 1, .int 0, rfl, rfl, SqT.of eb, atI_nat (j := 1) rfl, rfl, _, rfl, iteT ?_⟩
      exact ⟨.ref b, rfl, b, _, 2, .int i, rfl, rfl, SqT.of eb, atI_nat (j := 2) rfl, .ref b, rfl, b, _, 3, .int a, rfl, rfl, SqT.of eb, atI_nat (j := 3) rfl, raise_fin2 (q1 y i a rfl)⟩
    · refine ⟨.ref b, rfl, b, _, 1, .int 1, rfl, rfl, SqT.of eb, atI_nat (j := 1) rfl, rfl, _, rfl, iteF ?_⟩
      exact ⟨.ref b, rfl, b, _, 2, .int num, rfl, rfl, SqT.of eb, atI_nat (j := 2) rfl, raise_fin (q2 y num rfl)⟩
abbrev sSWt : Stmt := topS 55
abbrev nSWt : List Str := ["end", "place", "dragged"]
theorem scSWt : FnScope nSWt ["end", "place", "dragged"] (defScope sSWt) := ⟨rfl, rfl, rfl, by decide +kernel, rfl, by decide +kernel, by decide +kernel⟩
def spSWt : Sp := fun vs H Q _ => ∃ (e : Int) (v1 v2 : V) (d1 d2 : PyData) (av : List Addr), vs = [.int e, v1, v2] ∧ Dt av H v1 d1 ∧ Dt av H v2 d2 ∧ Tr av H ∧ ∀ (H' : Hp) (T : Addr), Keep [] H H' → Tr av H' → Dt av H' (.ref T) (.tuple (if e = 1 then [d2, d1] else [d1, d2])) → Q (.ref T) H'
theorem ok_sWt (h : Has K mg "stand_with" sSWt) (cH : ∃ t, mg "HEAD" = some (.int 1 t)) : Can P w K mg base "stand_with" ["end", "place", "dragged"] 1 spSWt := by
  obtain ⟨f, fd, F, g⟩ := h
  refine ⟨f, fd, F.ok (k := 0) scSWt (fun vs H Q E h => ?_) (fun cdv A outer s H vs Q E hr h => ?_), g, F.kp, F.binds fun _ _ _ _ _ _ us hl => match us, hl with | [_, _, _], _ => rfl⟩
  · obtain ⟨e, v1, v2, d1, d2, av, rfl, _⟩ := h
    rfl
  · obtain ⟨e, v1, v2, d1, d2, av, rfl, h1, h2, tr, q⟩ := h
    refine ⟨_, pss_one (ps_ret (pe_ifExp (pt_cmpR op_eq (pv 0) (pe_glob (v := .int 1) rfl cH.choose_spec ⟨_, rfl⟩) (nomark _)) (pe_tup (pa_cons (pv 2) (pa_cons (pv 1) pa_nil))) (pe_tup (pa_cons (pv 1) (pa_cons (pv 2) pa_nil))))), ?_⟩
    refine ⟨.int e, rfl, rfl, _, rfl, ite2 (fun c => ?_) (fun c => ?_)⟩
    · have c' : e = 1 := V.int.inj (of_decide_eq_true c)
      refine ⟨v2, rfl, v1, rfl, show 2 ≤ sizeLine by decide, fun t nt => ?_⟩
      obtain ⟨q1, t1, f1⟩ := tup_facts tr (.cons h2 (.cons h1 .nil)) nt
      exact q _ t q1 t1 (by rw [if_pos c']; exact f1)
    · have c' : ¬ e = 1 := fun z => c (decide_eq_true (by rw [z]))
      refine ⟨v1, rfl, v2, rfl, show 2 ≤ sizeLine by decide, fun t nt => ?_⟩
      obtain ⟨q1, t1, f1⟩ := tup_facts tr (.cons h1 (.cons h2 .nil)) nt
      exact q _ t q1 t1 (by rw [if_neg c']; exact f1)
abbrev sLDn : Stmt := topS 54
abbrev nLDn : List Str := ["plan", "rope", "stand", "end", "place", "dragged", "steps", "pieces", "bars"]
theorem scLDn : FnScope nLDn ["plan", "rope", "stand", "end", "place"] (defScope sLDn) := ⟨rfl, rfl, rfl, by decide +kernel, rfl, by decide +kernel, by decide +kernel⟩
def spLDn (C CE CP CB CS CT : Addr) : Sp := fun vs H Q E => ∃ (a : Addr) (v sv ev zv : V) (n l : Int) (ps : List Pi) (d : Int → Int → Int) (ks : List (Int × Int)) (s : Pl × Pl) (de dz : PyData) (a1 a2 av : List Addr), vs = [.ref a, v, sv, ev, zv] ∧ PlanAt C [] H a n ps d ∧ HouseOk n ps ∧ Tm n ps d ∧ Dt [] H v (ropeD l ks) ∧ okR l ks ∧ Dt a1 H sv (stD s) ∧ okP n ps s.1 ∧ okP n ps s.2 ∧ Dt a2 H ev de ∧ Dt av H zv dz ∧ isF dz = false ∧ Tr av H ∧
  (within de 0 1 = false → ∀ dx, H dx = none → E (.ref CE) (some dx) (upd H dx (.xd [("end", ev)]))) ∧
  (within de 0 1 = true → isPlace n (ps.map Pi.dat) dz = false → ∀ dx, H dx = none → E (.ref CP) (some dx) (upd H dx (.xd [("place", zv)]))) ∧
  ∀ e z, de = .int e → (e = 0 ∨ e = 1) → dz = tupI z → okP n ps z →
    (¬ Ahd ps d l e s z → ∀ H1 dx, Keep [] H H1 → H1 dx = none → E (.ref CB) (some dx) (upd H1 dx (.xd [("place", zv)]))) ∧
    (Ahd ps d l e s z → (∀ x, LBar n ps d l ks e s z x → (∀ y, LBar n ps d l ks e s z y → ¬ PySem.W.listLt y x = true) → ∀ H1, Keep [] H H1 → BarE CS CT x H1 E) ∧
      ((∀ x, ¬ LBar n ps d l ks e s z x) → ∀ (H' : Hp) (T : Addr) (y : Pl), Keep [] H H' → Tr av H' → At n ps d (endP (1 - e) s) z y (Dp ps d (endP e s) z) → Dt av H' (.ref T) (.tuple [stD (withE e z y), .int (Dp ps d (endP e s) z)]) → Q (.ref T) H'))
theorem ok_lDn (h : Has K mg "leg_done" sLDn) {C : Addr} (B : Blt mg) (X : PlanTxt K C) (cT : ∃ t, mg "TAIL" = some (.int 0 t)) (cH : ∃ t, mg "HEAD" = some (.int 1 t)) (CW : Can P w K mg base "is_within" ["thing", "low", "high"] 2 spWithin) (CP : Can P w K mg base "is_place" ["house", "thing"] 3 spPlaceP) (CG : Can P w K mg base "gap_of" ["plan", "one", "other"] 3 (spGap C)) (CR : Can P w K mg base "row_of" ["plan", "one", "other"] 3 (spRow C)) (CA : Can P w K mg base "place_along" ["plan", "pieces", "steps"] 2 (spPAl C)) (CB : Can P w K mg base "bars_of" ["plan", "rope", "end", "pieces", "steps"] 2 (spBOf C)) (CSW : Can P w K mg base "stand_with" ["end", "place", "dragged"] 1 spSWt) {CShut CStuck : Addr} (CF : CanX P w K mg base "refuse" ["bar"] 3 (spRfs CShut CStuck)) {CNoEnd : Addr} (ENoEnd : CanE P w K mg base "NoEnd" "end" CNoEnd) {CNoPlace : Addr} (ENoPlace : CanE P w K mg base "NoPlace" "place" CNoPlace) {CBack : Addr} (EBack : CanE P w K mg base "Back" "place" CBack) : CanX P w K mg base "leg_done" ["plan", "rope", "stand", "end", "place"] 4 (spLDn C CNoEnd CNoPlace CBack CShut CStuck) := by
  obtain ⟨f, fd, F, g⟩ := h
  refine ⟨f, fd, F.okX (k := 3) scLDn (fun vs H Q E h => ?_) (fun cdv A outer s H vs Q E hr h => ?_), g, F.kp, F.binds fun _ _ _ _ _ _ us hl => match us, hl with | [_, _, _, _, _], _ => rfl⟩
  · obtain ⟨a, v, sv, ev, zv, n, l, ps, d, ks, s, de, dz, a1, a2, av, rfl, _⟩ := h
    rfl
  · obtain ⟨a, v, sv, ev, zv, n, l, ps, d, ks, s, de, dz, a1, a2, av, rfl, pl, hk, T, dr, okr, ds, ok1, ok2, dev, dzv, nfz, tr, qE, qP, q⟩ := h
    refine ⟨_, pss_cons (ps_if (pt_not (pt_val (pe_can CW (hr.mono (by decide)) (by rfl) (pa_cons (pv 3) (pa_cons (pe_glob (v := .int 0) rfl cT.choose_spec ⟨_, rfl⟩) (pa_cons (pe_glob (v := .int 1) rfl cH.choose_spec ⟨_, rfl⟩) pa_nil)))))) (pss_one (ps_raiseE ENoEnd rfl (hr.mono (by decide)) (takes_of rfl rfl rfl rfl) (by rfl) (pa_cons (pv 3) pa_nil))) pss_nil)
      (pss_cons (ps_if (pt_not (pt_val (pe_can CP (hr.mono (by decide)) (by rfl) (pa_cons (pe_fld (pv 0) rfl) (pa_cons (pv 4) pa_nil))))) (pss_one (ps_raiseE ENoPlace rfl (hr.mono (by decide)) (takes_of rfl rfl rfl rfl) (by rfl) (pa_cons (pv 4) pa_nil))) pss_nil)
      (pss_cons (ps_set (i := 5) scLDn.nd rfl (by first | exact Or.inl rfl | exact Or.inr rfl) (pe_ix ix_tup (pv 2) (pe_op op_sub pe_int (pv 3)) (fun _ _ => rfl)))
      (pss_cons (ps_set (i := 6) scLDn.nd rfl (by first | exact Or.inl rfl | exact Or.inr rfl) (pe_can CG (hr.mono (by decide)) (by rfl) (pa_cons (pv 0) (pa_cons (pe_ix ix_tup (pv 2) (pv 3) (fun _ _ => rfl)) (pa_cons (pv 4) pa_nil)))))
      (pss_cons (ps_if (PW.pt (pw_or (pt_cmpR op_eq (pv 6) pe_int (nomark _)) (pw_or1 (pt_cmpR op_ne (pe_can CG (hr.mono (by decide)) (by rfl) (pa_cons (pv 0) (pa_cons (pv 5) (pa_cons (pv 4) pa_nil)))) (pe_op op_add (pe_ix ix_tup (pv 1) pe_int (fun _ _ => rfl)) (pv 6)) (nomark _))))) (pss_one (ps_raiseE EBack rfl (hr.mono (by decide)) (takes_of rfl rfl rfl rfl) (by rfl) (pa_cons (pv 4) pa_nil))) pss_nil)
      (pss_cons (ps_set (i := 7) scLDn.nd rfl (by first | exact Or.inl rfl | exact Or.inr rfl) (pe_can CR (hr.mono (by decide)) (by rfl) (pa_cons (pv 0) (pa_cons (pv 5) (pa_cons (pv 4) pa_nil)))))
      (pss_cons (ps_set (i := 8) scLDn.nd rfl (by first | exact Or.inl rfl | exact Or.inr rfl) (pe_can CB (hr.mono (by decide)) (by rfl) (pa_cons (pv 0) (pa_cons (pv 1) (pa_cons (pv 3) (pa_cons (pv 7) (pa_cons (pv 6) pa_nil)))))))
      (pss_cons (ps_if (pt_truth (pv 8) (by intro _; rfl)) (pss_one (ps_expr (pe_canX CF (hr.mono (by decide)) (takes_of rfl rfl rfl rfl) (by rfl) (pa_cons (pe_callB (cr_minT rfl (hu10 hr)) (by rfl) B.min_ boot_min (pa_cons (pv 8) pa_nil)) pa_nil)))) pss_nil)
      (pss_one (ps_ret (pe_tup (pa_cons (pe_can CSW (hr.mono (by decide)) (by rfl) (pa_cons (pv 3) (pa_cons (pv 4) (pa_cons (pe_can CA (hr.mono (by decide)) (by rfl) (pa_cons (pv 0) (pa_cons (pv 7) (pa_cons (pv 6) pa_nil)))) pa_nil)))) (pa_cons (pv 6) pa_nil)))))))))))), ?_⟩
    obtain ⟨ta, v1, v2, rfl, _, es, d1, d2⟩ := stD_at ds
    obtain ⟨ra, Tk, rfl, _, era, _⟩ := ropeD_at dr
    obtain ⟨dx, hb, pp, dl, gl, tl, xp, gs0, gs, ws, a1', a2', a3, a4, a5, a6, a7, _⟩ := id pl
    have l4 := okr.2.2.2.2
    have l1 := okr.1
    refine ⟨ev, rfl, ev, de, a2, 0, 1, rfl, dev, _, rfl, ite2 (fun c => ?_) (fun c => ?_)⟩
    · exact ⟨ev, rfl, raise_fin (qE (by simpa using c))⟩
    have ce : within de 0 1 = true := by simpa using c
    obtain ⟨e, rfl, e0, e1⟩ := wi_int ce
    cases dev
    refine ⟨.ref a, rfl, a, C, dx, _, .ref hb, rfl, a2', X.cl, X.nB, pf_built .., zv, rfl, .ref hb, zv, n, _, dz, [], av, rfl, .tup List.not_mem_nil a4 (.cons (.int n) (.cons (.tup List.not_mem_nil a6 a7) .nil)), pis_ok ps, dzv, _, rfl, ite2 (fun c => ?_) (fun c => ?_)⟩
    · exact ⟨zv, rfl, raise_fin (qP ce (by simpa using c))⟩
    have cz : isPlace n (ps.map Pi.dat) dz = true := by simpa using c
    obtain ⟨z, rfl, okz⟩ := isPlace_ok cz
    obtain ⟨qB, qA⟩ := q e z rfl (by omega) rfl okz
    obtain ⟨vb, vh, gb, gh, db, dh, okb, okh⟩ : ∃ vb vh, atI [v1, v2] (1 - e) = some vb ∧ atI [v1, v2] e = some vh ∧ Dt [] H vb (tupI (endP (1 - e) s)) ∧ Dt [] H vh (tupI (endP e s)) ∧ okP n ps (endP (1 - e) s) ∧ okP n ps (endP e s) := by
      by_cases h : e = 1
      · subst h
        exact ⟨v1, v2, rfl, rfl, d1.any, d2.any, ok1, ok2⟩
      · have : e = 0 := by omega
        subst this
        exact ⟨v2, v1, rfl, rfl, d2.any, d1.any, ok2, ok1⟩
    refine ⟨.ref ta, rfl, .int e, rfl, 1, e, rfl, rfl, ta, _, 1 - e, vb, rfl, rfl, SqT.of es, gb, ?_⟩
    refine ⟨.ref a, rfl, .ref ta, rfl, .int e, rfl, ta, _, e, vh, rfl, rfl, SqT.of es, gh, zv, rfl, a, vh, zv, n, ps, d, endP e s, z, rfl, pl, T, dh, dzv.any, okh, okz, fun H1 k1 => ?_⟩
    refine ⟨.int _, rfl, rfl, _, rfl, ite2 (fun c => ?_) (fun c => ?_)⟩
    · have c' : Dp ps d (endP e s) z = 0 := V.int.inj (of_decide_eq_true c)
      exact iteT ⟨zv, rfl, raise_fin (fun dx nd => qB (fun h => h.1 c') H1 dx k1 nd)⟩
    have c0 : ¬ Dp ps d (endP e s) z = 0 := fun h => c (decide_eq_true (by rw [h]))
    refine ⟨.ref a, rfl, vb, rfl, zv, rfl, a, vb, zv, n, ps, d, endP (1 - e) s, z, rfl, pl.keep k1, T, db.keep k1, (dzv.any).keep k1, okb, okz, fun H2 k2 => ?_⟩
    have k12 := k1.trans k2
    refine ⟨.ref ra, rfl, ra, _, 0, .int l, rfl, rfl, SqT.of (k12 _ _ era List.not_mem_nil), atI_nat (j := 0) rfl, .int _, rfl, l, _, rfl, rfl, rfl, _, rfl, ite2 (fun c => ?_) (fun c => ?_)⟩
    · have c' : ¬ Dp ps d (endP (1 - e) s) z = l + Dp ps d (endP e s) z := fun h => by
        rw [h] at c
        simp at c
      exact ⟨zv, rfl, raise_fin (fun dx nd => qB (fun h => c' h.2) H2 dx k12 nd)⟩
    have c1 : Dp ps d (endP (1 - e) s) z = l + Dp ps d (endP e s) z := by
      have : (decide (V.int (Dp ps d (endP (1 - e) s) z) = V.int (l + Dp ps d (endP e s) z))) = true := by simpa using c
      exact V.int.inj (of_decide_eq_true this)
    have knn := Dp_nn T okh okz
    obtain ⟨qR, qT⟩ := qA ⟨c0, c1⟩
    refine ⟨.ref a, rfl, vb, rfl, zv, rfl, a, vb, zv, n, ps, d, endP (1 - e) s, z, rfl, pl.keep k12, T, hk.n2, db.keep k12, (dzv.any).keep k12, okb, okz, fun H3 Lp us pcs k3 eLp du ch ht hl => ?_⟩
    have k13 := k12.trans k3
    have ne : pcs ≠ [] := fun h => by
      rw [h] at ht
      have : ptot [] = 0 := rfl
      omega
    refine ⟨.ref a, rfl, .ref ra, rfl, .int e, rfl, .ref Lp, rfl, .int _, rfl, a, Lp, .ref ra, n, l, e, _, ps, d, ks, us, pcs, rfl, pl.keep k13, hk, dr.keep k13, l4, eLp, du, hl, chn_pcs ch, fun H4 L bsv bs k4 nL eL dbs lb hb' => ?_⟩
    have k14 := k13.trans k4
    have lbs : bsv.length = bs.length := by rw [dbs.len, List.length_map]
    have hbar : ∀ x, x ∈ bs ↔ LBar n ps d l ks e s z x := fun x => by
      rw [hb' x]
      unfold BarL LBar
      exact and_congr_left' (bar_iff T hk ch okb okz ht ne)
    refine ⟨.ref L, rfl, _, .inl ⟨bsv, SqL.of eL, rfl⟩, ite2 (fun c => ?_) (fun c => ?_)⟩
    · cases bs with
      | nil =>
        have : bsv = [] := List.length_eq_zero_iff.mp lbs
        rw [this] at c
        cases c
      | cons b0 bs' =>
        refine ⟨.ref L, rfl, L, bsv, b0, bs', rfl, SqL.of eL, Dts.dp _ _ dbs (lay_tups _), fun i v gi gm => ?_⟩
        obtain ⟨dd, gd, dv⟩ := dbs.getv i gi
        rw [List.getElem?_map, gm] at gd
        cases gd
        obtain ⟨b, rfl, _, eb⟩ := tupI_at dv
        have mm := minL_mem b0 bs'
        have bm := (hbar _).mp mm
        exact ⟨b, _, rfl, eb, bm.1.form, qR _ bm (fun y hy => minL_least bs' b0 y ((hbar y).mpr hy)) H4 k14⟩
    · have bn : bs = [] := by
        have := emp_false c
        rw [this] at lbs
        exact List.length_eq_zero_iff.mp lbs.symm
      obtain ⟨z1, z2, z3⟩ := along_at T ch okz ht (k := Dp ps d (endP e s) z) (by omega) (by omega)
      refine ⟨.int e, rfl, zv, rfl, .ref a, rfl, .ref Lp, rfl, .int _, rfl, a, Lp, n, _, ps, d, us, pcs, av, rfl, pl.keep k14, k4 _ _ eLp List.not_mem_nil, du.keep k4, ne, by omega, chn_pcs ch, tr.k1 k14, fun H5 y k5 t5 dy => ?_⟩
      refine ⟨e, zv, y, tupI z, _, av, rfl, dzv.keep (k14.trans k5).of, dy, t5, fun H6 T6 k6 t6 d6 => ?_⟩
      refine ⟨.int _, rfl, show 2 ≤ sizeLine by decide, fun T7 nT7 => ?_⟩
      obtain ⟨k7, t7, f7⟩ := tup_facts t6 (ds := [stD (withE e z (along ps pcs (Dp ps d (endP e s) z))), .int (Dp ps d (endP e s) z)]) (.cons (by
        unfold stD withE
        by_cases h : e = 1
        · rw [if_pos h] at d6 ⊢; exact d6
        · rw [if_neg h] at d6 ⊢; exact d6) (.cons (.int _) .nil)) nT7
      exact qT (fun x hx => by have := (hbar x).mpr hx; rw [bn] at this; cases this) _ T7 _ (k14.trans (k5.trans (k6.trans k7))) t7 ⟨z1, z2, by omega⟩ f7
end
end Rw

namespace Rw
open PySem PySem.Spec PyProof.Rows L2
/-! ### ways -/
def lgD (x : PyData × PyData) : PyData := .tuple [x.1, x.2]
/-! one leg that is let -/
def LegS (n : Int) (ps : List Pi) (d : Int → Int → Int) (l : Int) (ks : List (Int × Int)) (s : Pl × Pl) (e : Int) (z : Pl) (s' : Pl × Pl) (k : Int) : Prop := (e = 0 ∨ e = 1) ∧ okP n ps z ∧ Ahd ps d l e s z ∧ (∀ x, ¬ LBar n ps d l ks e s z x) ∧ k = Dp ps d (endP e s) z ∧ ∃ y, At n ps d (endP (1 - e) s) z y k ∧ s' = withE e z y
inductive Legs (n : Int) (ps : List Pi) (d : Int → Int → Int) (l : Int) (ks : List (Int × Int)) : Pl × Pl → List (PyData × PyData) → Option ((Pl × Pl) × Int) → Prop
  | nil (s : Pl × Pl) : Legs n ps d l ks s [] (some (s, 0))
  | yes {s s' s2 : Pl × Pl} {e k t : Int} {z : Pl} {r : List (PyData × PyData)} : LegS n ps d l ks s e z s' k → Legs n ps d l ks s' r (some (s2, t)) → Legs n ps d l ks s ((.int e, tupI z) :: r) (some (s2, k + t))
  | off {s s' : Pl × Pl} {e k : Int} {z : Pl} {r : List (PyData × PyData)} : LegS n ps d l ks s e z s' k → Legs n ps d l ks s' r none → Legs n ps d l ks s ((.int e, tupI z) :: r) none
  | no {s : Pl × Pl} {a b : PyData} {r : List (PyData × PyData)} : (∀ e z s' k, a = .int e → b = tupI z → ¬ LegS n ps d l ks s e z s' k) → Legs n ps d l ks s ((a, b) :: r) none
theorem withE_ok {n : Int} {ps : List Pi} {e : Int} {z y : Pl} (hz : okP n ps z) (hy : okP n ps y) : okP n ps (withE e z y).1 ∧ okP n ps (withE e z y).2 := by
  unfold withE
  split
  · exact ⟨hy, hz⟩
  · exact ⟨hz, hy⟩
theorem stD_dp {K : PySem.W.Frag} {av : List Addr} {H : Hp} {v : V} {s : Pl × Pl} (h : Dt av H v (stD s)) : L2.Dp K H v (stD s) := by
  refine Dt.dp _ _ h ?_
  show PyData.canLay0 (.tuple [.tuple (s.1.map .int), .tuple (s.2.map .int)]) = true
  simp only [PyData.canLay0, PyData.canLayAll0, tupI_lay, Bool.and_true]
theorem stD_shaped (s : Pl × Pl) : SeqAt.shaped (stD s) = true := by
  refine shaped_of ?_ ?_
  · show PyData.canLay0 (.tuple [.tuple (s.1.map .int), .tuple (s.2.map .int)]) = true
    simp only [PyData.canLay0, PyData.canLayAll0, tupI_lay, Bool.and_true]
  · have : PyData.depth (.tuple [.tuple (s.1.map .int), .tuple (s.2.map .int)]) ≤ 64 := by simp [PyData.depth, PyData.depthAll, tupI_depths]
    exact this
theorem eqv_stD (s t : Pl × Pl) : PyData.eqv (stD s) (stD t) = decide (s = t) := by
  have e1 := eqv_tupI s.1 t.1
  have e2 := eqv_tupI s.2 t.2
  show PyData.eqv (.tuple [tupI s.1, tupI s.2]) (.tuple [tupI t.1, tupI t.2]) = _
  simp only [PyData.eqv, PyData.eqvAll, e1, e2, Bool.and_true]
  rw [Bool.eq_iff_iff, Bool.and_eq_true, decide_eq_true_eq, decide_eq_true_eq, decide_eq_true_eq]
  exact ⟨fun h => Prod.ext h.1 h.2, fun h => by rw [h]; exact ⟨rfl, rfl⟩⟩
theorem nil_tr {H : Hp} : Tr [] H := fun _ m => absurd m List.not_mem_nil
section
variable {P : Program} {w : World} {K : PySem.W.Frag} {mg : Str → Option Value} {base : Heap}
abbrev sPul : Stmt := topS 53
abbrev nPul : List Str := ["house", "rope", "stand", "end", "place"]
theorem scPul : FnScope nPul ["house", "rope", "stand", "end", "place"] (defScope sPul) := ⟨rfl, rfl, rfl, by decide +kernel, rfl, by decide +kernel, by decide +kernel⟩
def spPul (C CE CP CB CS CT : Addr) : Sp := fun vs H Q E => ∃ (h v sv ev zv : V) (n l : Int) (ps : List Pi) (d : Int → Int → Int) (ks : List (Int × Int)) (s : Pl × Pl) (de dz : PyData) (a1 a2 av : List Addr), vs = [h, v, sv, ev, zv] ∧ Dt [] H h (houseD n (ps.map Pi.dat)) ∧ HouseOk n ps ∧ Tm n ps d ∧ Dt [] H v (ropeD l ks) ∧ okR l ks ∧ Dt a1 H sv (stD s) ∧ okP n ps s.1 ∧ okP n ps s.2 ∧ Dt a2 H ev de ∧ Dt av H zv dz ∧ isF dz = false ∧ Tr av H ∧
  (within de 0 1 = false → ∀ H1 dx, Keep [] H H1 → H1 dx = none → E (.ref CE) (some dx) (upd H1 dx (.xd [("end", ev)]))) ∧
  (within de 0 1 = true → isPlace n (ps.map Pi.dat) dz = false → ∀ H1 dx, Keep [] H H1 → H1 dx = none → E (.ref CP) (some dx) (upd H1 dx (.xd [("place", zv)]))) ∧
  ∀ e z, de = .int e → (e = 0 ∨ e = 1) → dz = tupI z → okP n ps z →
    (¬ Ahd ps d l e s z → ∀ H1 dx, Keep [] H H1 → H1 dx = none → E (.ref CB) (some dx) (upd H1 dx (.xd [("place", zv)]))) ∧
    (Ahd ps d l e s z → (∀ x, LBar n ps d l ks e s z x → (∀ y, LBar n ps d l ks e s z y → ¬ PySem.W.listLt y x = true) → ∀ H1, Keep [] H H1 → BarE CS CT x H1 E) ∧
      ((∀ x, ¬ LBar n ps d l ks e s z x) → ∀ (H' : Hp) (v : V) (y : Pl), Keep [] H H' → Tr av H' → At n ps d (endP (1 - e) s) z y (Dp ps d (endP e s) z) → Dt av H' v (stD (withE e z y)) → Q v H'))
theorem ok_pul (h : Has K mg "pulled" sPul) {C CNoEnd CNoPlace CBack CShut CStuck : Addr} (CPn : CanMk P w K mg base "Plan" C ["self", "house"] 2 (spInit C)) (CL : CanX P w K mg base "leg_done" ["plan", "rope", "stand", "end", "place"] 4 (spLDn C CNoEnd CNoPlace CBack CShut CStuck)) : CanX P w K mg base "pulled" ["house", "rope", "stand", "end", "place"] 5 (spPul C CNoEnd CNoPlace CBack CShut CStuck) := by
  obtain ⟨f, fd, F, g⟩ := h
  refine ⟨f, fd, F.okX (k := 4) scPul (fun vs H Q E h => ?_) (fun cdv A outer s H vs Q E hr h => ?_), g, F.kp, F.binds fun _ _ _ _ _ _ us hl => match us, hl with | [_, _, _, _, _], _ => rfl⟩
  · obtain ⟨h, v, sv, ev, zv, n, l, ps, d, ks, s, de, dz, a1, a2, av, rfl, _⟩ := h
    rfl
  · obtain ⟨h, v, sv, ev, zv, n, l, ps, d, ks, s, de, dz, a1, a2, av, rfl, hh, hk, T, dr, okr, ds, ok1, ok2, dev, dzv, nfz, tr, qE, qP, q⟩ := h
    refine ⟨_, pss_one (ps_ret (pe_ix ix_tup (pe_canX CL (hr.mono (by decide)) (takes_of rfl rfl rfl rfl) (by rfl) (pa_cons (pe_mk CPn (hr.mono (by decide)) (by rfl) (pa_cons (pv 0) pa_nil)) (pa_cons (pv 1) (pa_cons (pv 2) (pa_cons (pv 3) (pa_cons (pv 4) pa_nil)))))) pe_int (fun _ _ => rfl))), ?_⟩
    refine ⟨h, rfl, fun x dx nx ndx ne => plan_made (C := C) hh hk T nil_tr nx ndx ne (fun H1 k1 _ pl => ?_)⟩
    refine ⟨rfl, v, rfl, sv, rfl, ev, rfl, zv, rfl, x, v, sv, ev, zv, n, l, ps, d, ks, s, de, dz, a1, a2, av, rfl, pl, hk, T, dr.keep k1, okr, ds.keep k1.of, ok1, ok2, dev.keep k1.of, dzv.keep k1.of, nfz, tr.k1 k1, fun c dx nd => qE c H1 dx k1 nd, fun c1 c2 dx nd => qP c1 c2 H1 dx k1 nd, fun e z e1 e2 e3 e4 => ?_⟩
    obtain ⟨qB, qA⟩ := q e z e1 e2 e3 e4
    refine ⟨fun na H2 dx k2 nd => qB na H2 dx (k1.trans k2) nd, fun ya => ⟨fun b hb hm H2 k2 => (qA ya).1 b hb hm H2 (k1.trans k2), fun nb H2 T2 y k2 t2 hy dT => ?_⟩⟩
    obtain ⟨T', xs, eq, _, eT, dx⟩ := tup_at dT
    cases eq
    cases dx with
    | cons d1 dx =>
      cases dx with
      | cons d2 dx =>
        cases dx
        exact ⟨T2, _, 0, _, rfl, rfl, SqT.of eT, atI_nat (j := 0) rfl, (qA ya).2 nb H2 _ y (k1.trans k2) t2 hy d1⟩
end
end Rw

namespace Rw
open PySem PySem.Spec PyProof.Rows L2
/-! ### all places of a small house, in their order -/
def plsL (n : Int) (ps : List Pi) (j : Nat) : List Pl := (List.range n.toNat).map (fun r : Nat => [(r : Int)]) ++ (List.range j).flatMap fun i : Nat => (List.range ((pr ps (i : Int)).l - 1).toNat).map fun a : Nat => [(i : Int), 1 + (a : Int)]
theorem pls_mem {n : Int} {ps : List Pi} {z : Pl} : z ∈ plsL n ps ps.length ↔ okP n ps z := by
  unfold plsL
  rw [List.mem_append, List.mem_map, List.mem_flatMap]
  constructor
  · rintro (⟨r, m, rfl⟩ | ⟨i, mi, m⟩)
    · have := List.mem_range.mp m
      exact ⟨by omega, by omega⟩
    · obtain ⟨a, ma, rfl⟩ := List.mem_map.mp m
      have h1 := List.mem_range.mp mi
      have h2 := List.mem_range.mp ma
      exact ⟨by omega, by omega, by omega, by omega⟩
  · intro h
    rcases ok_cases h with ⟨r, rfl, r0, r1⟩ | ⟨i, a, rfl, i0, i1, a0, a1⟩
    · exact .inl ⟨r.toNat, List.mem_range.mpr (by omega), by rw [show ((r.toNat : Nat) : Int) = r by omega]⟩
    · refine .inr ⟨i.toNat, List.mem_range.mpr (by omega), List.mem_map.mpr ⟨(a - 1).toNat, List.mem_range.mpr ?_, ?_⟩⟩
      · rw [show ((i.toNat : Nat) : Int) = i by omega]; omega
      · rw [show ((i.toNat : Nat) : Int) = i by omega, show 1 + (((a - 1).toNat : Nat) : Int) = a by omega]
end Rw

namespace Rw
open PySem PySem.Spec PyProof.Rows L2
/-! ### the places next to each place, lists that grow where they lie -/
def KeepT (G G' : Hp) : Prop := ∀ t xs, G t = some (.tup xs) → G' t = some (.tup xs)
theorem KeepT.of {G G' : Hp} (k : Keep [] G G') : KeepT G G' := fun t xs e => k t _ e List.not_mem_nil
theorem KeepT.lst {G : Hp} {L : Addr} {us vs : List V} (e : G L = some (.lst us)) : KeepT G (upd G L (.lst vs)) := fun t xs et => by
  have ne : t ≠ L := fun z => by rw [z, e] at et; cases et
  rw [upd_ne ne]; exact et
theorem KeepT.dct {G : Hp} {L : Addr} {us vs : List (List Key × V)} (e : G L = some (.dT us)) : KeepT G (upd G L (.dT vs)) := fun t xs et => by
  have ne : t ≠ L := fun z => by rw [z, e] at et; cases et
  rw [upd_ne ne]; exact et
def TA (G : Hp) (ts : List Addr) (qs : List Pl) : Prop := ts.length = qs.length ∧ ∀ (i : Nat) (t : Addr) (q : Pl), ts[i]? = some t → qs[i]? = some q → G t = some (.tup (q.map V.int))
theorem TA.keep {G G' : Hp} {ts : List Addr} {qs : List Pl} (h : TA G ts qs) (k : KeepT G G') : TA G' ts qs := ⟨h.1, fun i t q a b => k _ _ (h.2 i t q a b)⟩
theorem TA.snoc {G : Hp} {ts : List Addr} {qs : List Pl} (h : TA G ts qs) {t : Addr} {q : Pl} (e : G t = some (.tup (q.map V.int))) : TA G (ts ++ [t]) (qs ++ [q]) := by
  refine ⟨by rw [List.length_append, List.length_append, h.1]; rfl, fun i t' q' a b => ?_⟩
  by_cases c : i < ts.length
  · rw [List.getElem?_append_left c] at a
    rw [List.getElem?_append_left (by rw [← h.1]; exact c)] at b
    exact h.2 i t' q' a b
  · have hi := (List.getElem?_eq_some_iff.mp a).1
    rw [List.length_append, List.length_singleton] at hi
    have ei : i = ts.length := by omega
    subst ei
    rw [List.getElem?_append_right (Nat.le_refl _), Nat.sub_self] at a
    rw [List.getElem?_append_right (by rw [h.1]; exact Nat.le_refl _), h.1, Nat.sub_self] at b
    cases a; cases b; exact e
structure Nxs (G : Hp) (kvs : List (List Key × V)) (R : Pl → Pl → Prop) (A : Pl → Prop) (m : Nat) : Prop where
  at_ : ∀ p, A p → ∃ (L : Addr) (ts : List Addr) (qs : List Pl), valV kvs (keyOf p) = some (.ref L) ∧ G L = some (.lst (ts.map V.ref)) ∧ TA G ts qs ∧ ts.length ≤ m ∧ qs.Nodup ∧ ∀ q, q ∈ qs ↔ R p q
  inj : ∀ p p' L, A p → A p' → valV kvs (keyOf p) = some (.ref L) → valV kvs (keyOf p') = some (.ref L) → p = p'
theorem Nxs.keep {G G' : Hp} {kvs : List (List Key × V)} {R : Pl → Pl → Prop} {A : Pl → Prop} {m : Nat} (h : Nxs G kvs R A m) (k : Keep [] G G') : Nxs G' kvs R A m := ⟨fun p a => by
  obtain ⟨L, ts, qs, e1, e2, e3, e4⟩ := h.at_ p a
  exact ⟨L, ts, qs, e1, k _ _ e2 List.not_mem_nil, e3.keep (.of k), e4⟩, h.inj⟩
theorem Nxs.same {G : Hp} {kvs : List (List Key × V)} {R R' : Pl → Pl → Prop} {A : Pl → Prop} {m m' : Nat} (h : Nxs G kvs R A m) (hm : m ≤ m') (hR : ∀ p, A p → ∀ q, R p q ↔ R' p q) : Nxs G kvs R' A m' := ⟨fun p a => by
  obtain ⟨L, ts, qs, e1, e2, e3, e4, e5, e6⟩ := h.at_ p a
  exact ⟨L, ts, qs, e1, e2, e3, by omega, e5, fun q => (e6 q).trans (hR p a q)⟩, h.inj⟩
theorem putK_key {kvs : List (List Key × V)} {k : List Key} {v : V} {x : List Key × V} (m : x ∈ putK kvs k v) : (∃ y ∈ kvs, y.1 = x.1) ∨ x.1 = k := by
  unfold putK at m
  split at m
  · obtain ⟨y, my, rfl⟩ := List.mem_map.mp m
    by_cases c : y.1 = k
    · rw [if_pos c]; exact .inr c
    · rw [if_neg c]; exact .inl ⟨y, my, rfl⟩
  · rcases List.mem_append.mp m with m | m
    · exact .inl ⟨x, m, rfl⟩
    · rw [List.mem_singleton.mp m]; exact .inr rfl
/-! a new empty list for a place -/
theorem Nxs.first {G : Hp} {kvs : List (List Key × V)} {R : Pl → Pl → Prop} {A : Pl → Prop} {m : Nat} (h : Nxs G kvs R A m) {p : Pl} {L Fd : Addr} (nL : G L = none) (eF : G Fd = some (.dT kvs)) (hR : ∀ q, ¬ R p q) {k' : List (List Key × V)} (hk' : k' = putK kvs (keyOf p) (.ref L)) :
    Nxs (upd (upd G L (.lst [])) Fd (.dT k')) k' R (fun z => A z ∨ z = p) m := by
  subst hk'
  have nFL : Fd ≠ L := ne_of_none eF nL
  have e1 : (upd G L (.lst [])) Fd = some (.dT kvs) := by rw [upd_ne nFL]; exact eF
  have kt : KeepT G (upd (upd G L (.lst [])) Fd (.dT (putK kvs (keyOf p) (.ref L)))) := fun t xs e => KeepT.dct e1 t xs (KeepT.of (Keep.new nL) t xs e)
  refine ⟨fun z a => ?_, fun z z' M a a' v v' => ?_⟩
  · by_cases c : z = p
    · subst c
      refine ⟨L, [], [], by rw [valV_put, if_pos rfl], by rw [upd_ne nFL.symm]; exact upd_same, ⟨rfl, fun i t q e _ => by cases e⟩, Nat.zero_le _, List.nodup_nil, fun q => ⟨fun m => (nomatch m), fun w => absurd w (hR q)⟩⟩
    · obtain ⟨L', ts, qs, e1', e2, e3, e4⟩ := h.at_ z (a.resolve_right c)
      have nF' : L' ≠ Fd := fun w => by rw [w, eF] at e2; cases e2
      exact ⟨L', ts, qs, by rw [valV_put, if_neg (fun w => c (keyOf_inj w))]; exact e1', by rw [upd_ne nF', upd_ne (ne_of_none e2 nL)]; exact e2, e3.keep kt, e4⟩
  · have old : ∀ {z : Pl}, A z ∨ z = p → z ≠ p → ∀ {M : Addr}, valV (putK kvs (keyOf p) (.ref L)) (keyOf z) = some (.ref M) → A z ∧ valV kvs (keyOf z) = some (.ref M) ∧ M ≠ L := fun {z} a c {M} v => by
      rw [valV_put, if_neg (fun w => c (keyOf_inj w))] at v
      obtain ⟨L', ts, qs, e1', e2, _⟩ := h.at_ z (a.resolve_right c)
      rw [v] at e1'
      cases e1'
      exact ⟨a.resolve_right c, v, ne_of_none e2 nL⟩
    have new : ∀ {z : Pl}, z = p → ∀ {M : Addr}, valV (putK kvs (keyOf p) (.ref L)) (keyOf z) = some (.ref M) → M = L := fun {z} c {M} v => by
      rw [valV_put, if_pos (by rw [c])] at v
      cases v; rfl
    by_cases c : z = p <;> by_cases c' : z' = p
    · rw [c, c']
    · exact absurd (new c v) (old a' c' v').2.2
    · exact absurd (new c' v') (old a c v).2.2
    · exact h.inj z z' M (old a c v).1 (old a' c' v').1 (old a c v).2.1 (old a' c' v').2.1
/-! one more at the end of a place's list -/
theorem Nxs.more {G : Hp} {kvs : List (List Key × V)} {R : Pl → Pl → Prop} {A : Pl → Prop} {m : Nat} (h : Nxs G kvs R A m) {p q : Pl} {L t : Addr} {us : List V} (a : A p) (v : valV kvs (keyOf p) = some (.ref L)) (eL : G L = some (.lst us)) (et : G t = some (.tup (q.map V.int))) (nR : ¬ R p q) :
    Nxs (upd G L (.lst (us ++ [.ref t]))) kvs (fun x y => R x y ∨ (x = p ∧ y = q)) A (m + 1) := by
  refine ⟨fun z az => ?_, h.inj⟩
  obtain ⟨L', ts, qs, e1, e2, e3, e4, e5, e6⟩ := h.at_ z az
  have kt := KeepT.lst (vs := us ++ [.ref t]) eL
  by_cases c : z = p
  · subst c
    rw [v] at e1
    cases e1
    rw [eL] at e2
    cases e2
    refine ⟨L, ts ++ [t], qs ++ [q], v, by rw [upd_same, List.map_append]; rfl, (e3.snoc et).keep kt, by rw [List.length_append]; show ts.length + 1 ≤ m + 1; omega, List.nodup_append.mpr ⟨e5, by simp, fun x hx y hy w => nR ((e6 q).mp (by rw [← List.mem_singleton.mp hy, ← w]; exact hx))⟩, fun y => ?_⟩
    rw [List.mem_append, List.mem_singleton, e6 y]
    exact ⟨fun w => w.elim .inl (fun w => .inr ⟨rfl, w⟩), fun w => w.elim .inl (fun w => .inr w.2)⟩
  · have ne : L' ≠ L := fun w => c (h.inj z p L az a (by rw [← w]; exact e1) v)
    refine ⟨L', ts, qs, e1, by rw [upd_ne ne]; exact e2, e3.keep kt, by omega, e5, fun y => (e6 y).trans ⟨.inl, fun w => w.elim id (fun w => absurd w.1 c)⟩⟩
theorem Nxs.sub {G : Hp} {kvs : List (List Key × V)} {R : Pl → Pl → Prop} {A A' : Pl → Prop} {m : Nat} (h : Nxs G kvs R A m) (hA : ∀ z, A' z → A z) : Nxs G kvs R A' m := ⟨fun p a => h.at_ p (hA p a), fun p p' L a a' => h.inj p p' L (hA p a) (hA p' a')⟩
end Rw

namespace Rw
open PySem PySem.Spec PyProof.Rows L2
end Rw

namespace Rw
open PySem PySem.Spec PyProof.Rows L2
theorem pipe_tls {av : List Addr} {H : Hp} {pa T1 T2 : Addr} {p : Pi} {x y l : V} (h : Dt av H (.ref pa) p.dat) (e : H pa = some (.tup [x, y, l, .ref T1, .ref T2])) : Dt av H (.ref T1) (.tuple (p.na.map prD)) ∧ Dt av H (.ref T2) (.tuple (p.fl.map prD)) := by
  have h' : Dt av H (.ref pa) (.tuple [.int p.x, .int p.y, .int p.l, .tuple (p.na.map prD), .tuple (p.fl.map prD)]) := h
  obtain ⟨a, xs, ea, na, eb, db⟩ := tup_at h'
  cases ea
  rw [e] at eb
  cases eb
  cases db with
  | cons _ db => cases db with
    | cons _ db => cases db with
      | cons _ db => cases db with
        | cons d4 db => cases db with
          | cons d5 _ => exact ⟨d4, d5⟩
/-! ### how wide the narrow places are -/
structure Wdt (kvs : List (List Key × V)) (S : Int → Int → Int → Prop) : Prop where
  two : ∀ i a, (∃ w, S i a w ∧ valV kvs (keyOf [i, a]) = some (.int w)) ∨ ((∀ w, ¬ S i a w) ∧ valV kvs (keyOf [i, a]) = none)
  one : ∀ r, valV kvs (keyOf [r]) = none
theorem Wdt.put {kvs : List (List Key × V)} {S : Int → Int → Int → Prop} (h : Wdt kvs S) (i a w : Int) : Wdt (putK kvs (keyOf [i, a]) (.int w)) (fun x y z => S x y z ∨ (x = i ∧ y = a ∧ z = w)) := by
  refine ⟨fun x y => ?_, fun r => ?_⟩
  · rw [valV_put]
    by_cases c : x = i ∧ y = a
    · rw [if_pos (key2.mpr c)]
      exact .inl ⟨w, .inr ⟨c.1, c.2, rfl⟩, rfl⟩
    · rw [if_neg (fun z => c (key2.mp z))]
      rcases h.two x y with ⟨v, s, e⟩ | ⟨s, e⟩
      · exact .inl ⟨v, .inl s, e⟩
      · exact .inr ⟨fun v z => z.elim (s v) (fun z => c ⟨z.1, z.2.1⟩), e⟩
  · rw [valV_put, if_neg (fun z => by have := keyOf_inj z; simp at this)]
    exact h.one r
theorem Wdt.same {kvs : List (List Key × V)} {S S' : Int → Int → Int → Prop} (h : Wdt kvs S) (e : ∀ i a w, S i a w ↔ S' i a w) : Wdt kvs S' := ⟨fun i a => (h.two i a).imp (fun ⟨w, s, v⟩ => ⟨w, (e i a w).mp s, v⟩) (fun ⟨s, v⟩ => ⟨fun w z => s w ((e i a w).mpr z), v⟩), h.one⟩
end Rw

namespace Rw
open PySem PySem.Spec PyProof.Rows L2
/-! ### whether knots lie where they fit -/
def fits (ps : List Pi) (zs : List Pl) (k : Int × Int) : Prop := ∀ i a w, zs[k.1.toNat]? = some [i, a] → (a, w) ∈ (pr ps i).na → k.2 ≤ w
theorem one_width : ∀ {ks : List (Int × Int)}, (ks.map (·.1)).Pairwise (· < ·) → ∀ {a w w' : Int}, (a, w) ∈ ks → (a, w') ∈ ks → w = w'
  | [], _, _, _, _, m, _ => (nomatch m)
  | x :: ks, h, a, w, w', m, m' => by
    rw [List.map_cons, List.pairwise_cons] at h
    rcases List.mem_cons.mp m with e | m <;> rcases List.mem_cons.mp m' with e' | m'
    · rw [← e] at e'; cases e'; rfl
    · have := h.1 a (List.mem_map.mpr ⟨_, m', rfl⟩)
      rw [← e] at this; exact absurd this (Int.lt_irrefl _)
    · have := h.1 a (List.mem_map.mpr ⟨_, m, rfl⟩)
      rw [← e'] at this; exact absurd this (Int.lt_irrefl _)
    · exact one_width h.2 m m'
theorem wid_of {n : Int} {ps : List Pi} {zs : List Pl} {kvs : List (List Key × V)} (hk : HouseOk n ps) (wd : Wdt kvs (fun i a w => 0 ≤ i ∧ i < ps.length ∧ (a, w) ∈ (pr ps i).na)) {k : Int × Int} {z : Pl} (gz : zs[k.1.toNat]? = some z) (oz : okP n ps z) : ∃ w : Int, (valV kvs (keyOf z)).getD (.int k.2) = .int w ∧ (¬ w < k.2 ↔ fits ps zs k) := by
  rcases ok_cases oz with ⟨r, rfl, _, _⟩ | ⟨i, a, rfl, i0, i1, _, _⟩
  · exact ⟨k.2, by rw [wd.one r]; rfl, fun _ i a w e _ => (by rw [gz] at e; cases e), fun _ => Int.lt_irrefl _⟩
  · rcases wd.two i a with ⟨w, s, e⟩ | ⟨s, e⟩
    · refine ⟨w, by rw [e]; rfl, fun h i' a' w' e' m => ?_, fun h => ?_⟩
      · rw [gz] at e'; cases e'
        rw [one_width (hk.ok _ (pr_mem i0 i1).1).fit.nup m s.2.2]; omega
      · have := h i a w gz s.2.2
        omega
    · refine ⟨k.2, by rw [e]; rfl, fun _ i' a' w' e' m => ?_, fun _ => Int.lt_irrefl _⟩
      rw [gz] at e'; cases e'
      exact absurd ⟨i0, i1, m⟩ (s w')
end Rw

namespace Rw
open PySem PySem.Spec PyProof.Rows L2
theorem pi_two {av : List Addr} {H : Hp} {xp : List V} {ps : List Pi} (hs : Dts av H xp (ps.map Pi.dat)) {i : Int} (h0 : 0 ≤ i) (h1 : i < ps.length) :
    ∃ (pa T1 T2 : Addr), atI xp i = some (.ref pa) ∧ H pa = some (.tup [.int (pr ps i).x, .int (pr ps i).y, .int (pr ps i).l, .ref T1, .ref T2]) ∧ pa ∉ av ∧ Dt av H (.ref T1) (.tuple ((pr ps i).na.map prD)) ∧ Dt av H (.ref T2) (.tuple ((pr ps i).fl.map prD)) := by
  obtain ⟨v, ev, dv⟩ := hs.get i.toNat (d := (pr ps i).dat) (by rw [List.getElem?_map, (pr_mem h0 h1).2]; rfl)
  have ep : (pr ps i).dat = .tuple [.int (pr ps i).x, .int (pr ps i).y, .int (pr ps i).l, .tuple ((pr ps i).na.map prD), .tuple ((pr ps i).fl.map prD)] := rfl
  rw [ep] at dv
  cases dv with
  | tup na ea da =>
    cases da with
    | cons d1 da => cases d1; cases da with
      | cons d2 da => cases d2; cases da with
        | cons d3 da => cases d3; cases da with
          | cons d4 da => cases da with
            | cons d5 da =>
              cases da
              obtain ⟨T1, _, rfl, _, _, _⟩ := tup_at d4
              obtain ⟨T2, _, rfl, _, _, _⟩ := tup_at d5
              exact ⟨_, T1, T2, atI_of h0 ev, ea, na, d4, d5⟩
section
variable {P : Program} {w : World} {K : PySem.W.Frag} {mg : Str → Option Value} {base : Heap}
abbrev sNar : Stmt := topS 72
abbrev nNar : List Str := ["plan", "place", "size", "narrows", "at", "width"]
theorem scNar : FnScope nNar ["plan", "place", "size"] (defScope sNar) := ⟨rfl, rfl, rfl, by decide +kernel, rfl, by decide +kernel, by decide +kernel⟩
def spNar (C : Addr) : Sp := fun vs H Q _ => ∃ (a : Addr) (v : V) (n s : Int) (ps : List Pi) (d : Int → Int → Int) (z : Pl), vs = [.ref a, v, .int s] ∧ PlanAt C [] H a n ps d ∧ HouseOk n ps ∧ Dt [] H v (tupI z) ∧ okP n ps z ∧
  ∀ (H' : Hp) (c : Bool), Keep [] H H' → (c = true ↔ ∃ (i b w : Int), z = [i, b] ∧ (b, w) ∈ (pr ps i).na ∧ w < s) → Q (.bl c) H'
theorem ok_nar (h : Has K mg "is_narrower" sNar) {C : Addr} (B : Blt mg) (X : PlanTxt K C) : Can P w K mg base "is_narrower" ["plan", "place", "size"] 1 (spNar C) := by
  obtain ⟨f, fd, F, g⟩ := h
  refine ⟨f, fd, F.ok (k := 0) scNar (fun vs H Q E h => ?_) (fun cdv A outer s H vs Q E hr h => ?_), g, F.kp, F.binds fun _ _ _ _ _ _ us hl => match us, hl with | [_, _, _], _ => rfl⟩
  · obtain ⟨a, v, n, s, ps, d, z, rfl, _⟩ := h
    rfl
  · obtain ⟨a, v, n, s, ps, d, z, rfl, pl, hk, dz, okz, q⟩ := h
    refine ⟨_, pss_cons (ps_if (pt_cmpR op_eq (pe_callB call_len_seq (by rfl) B.len_ PySem.boot_len (pa_cons (pv 1) pa_nil)) pe_int (nomark _)) (pss_one (ps_ret pe_bl)) pss_nil)
      (pss_cons (ps_set (i := 3) scNar.nd rfl (by first | exact Or.inl rfl | exact Or.inr rfl) (pe_ix ix_tup (pe_ix ix_tup (pe_fld (pv 0) rfl) (pe_ix ix_tup (pv 1) pe_int (fun _ _ => rfl)) (fun _ _ => rfl)) pe_int (fun _ _ => rfl)))
      (pss_one (ps_ret (pe_callB (cr_any rfl) (by rfl) B.any_ (by decide +kernel) (pa_cons (pe_lc (own := [("at", 4), ("width", 5)]) (tt := tYes) rfl scNar.nd (pi_tup (pv 3)) (blkOk_by (N := nNar) (sc := defScope sNar) (by decide +kernel)) (fun _ _ _ _ _ => (pg_tupK (K := K) (n := 2) rfl (by rfl) (pgs_cons (pg_name (i := 4) scNar.nd rfl (by first | exact Or.inl rfl | exact Or.inr rfl)) (pgs_cons (pg_name (i := 5) scNar.nd rfl (by first | exact Or.inl rfl | exact Or.inr rfl)) pgs_nil)))) (fun _ _ _ _ _ => pts_nil) (fun _ _ _ _ _ => (pe_and (pe_cmpR op_eq (pv 4) (pe_ix (ix_tupK (K := K) rfl) (pv 1) pe_int (fun _ _ => rfl)) (nomark _)) (pe_one (pe_cmpR op_lt (pv 5) (pv 2) (nomark _)))))) pa_nil))))), ?_⟩
    obtain ⟨za, rfl, _, eza⟩ := tupI_at dz
    rcases ok_cases okz with ⟨r, rfl, _, _⟩ | ⟨i, b, rfl, i0, i1, b0, b1⟩
    · refine ⟨.ref za, rfl, za, _, rfl, .inr (SqT.of eza), rfl, _, rfl, ite2 (fun c => ?_) (fun c => absurd (by simp) c)⟩
      exact q _ _ (Keep.refl _ _) ⟨fun h => Bool.noConfusion h, fun ⟨_, _, _, e, _⟩ => by cases e⟩
    obtain ⟨dx, hb, pp, dl, gl, tl, xp, ds, gs, ws, a1', a2, a3, a4, a5, a6, a7, _⟩ := pl
    obtain ⟨pa, T1, T2, ga, epa, _, dT1, _⟩ := pi_two a7 i0 i1
    refine ⟨.ref za, rfl, za, _, rfl, .inr (SqT.of eza), rfl, _, rfl, ite2 (fun c => absurd c (by simp)) (fun c => ?_)⟩
    refine ⟨.ref a, rfl, a, C, dx, _, .ref pp, rfl, a2, X.cl, X.nP, pf_pipes .., .ref za, rfl, za, _, 0, .int i, rfl, rfl, SqT.of eza, atI_nat (j := 0) rfl, pp, xp, i, .ref pa, rfl, rfl, SqT.of a6, ga, pa, [.int (pr ps i).x, .int (pr ps i).y, .int (pr ps i).l, .ref T1, .ref T2], 3, .ref T1, rfl, rfl, SqT.of epa, atI_nat (j := 3) rfl, ?_⟩
    obtain ⟨T, ku, eT', _, eT, dku⟩ := tup_at dT1
    cases eT'
    have lku : ku.length = (pr ps i).na.length := by rw [dku.len, List.length_map]
    refine ⟨.ref T1, rfl, T1, rfl, ⟨_, SqT.of eT⟩, fun W nW => ?_⟩
    refine lc_tup (K := K) (a := T1) (xs := ku) (fun t M => Keep [] H M ∧ ∃ bs : List Bool, M W = some (.lst (bs.map V.bl)) ∧ bs.length ≤ t ∧ (bs.any id = true ↔ ∃ w, (b, w) ∈ (pr ps i).na.take t ∧ w < s))
      ⟨Keep.new nW, [], upd_same, Nat.le_refl _, ⟨fun h => Bool.noConfusion h, fun ⟨_, m, _⟩ => absurd m (by rw [List.take_zero]; exact List.not_mem_nil)⟩⟩ (fun t M _ z => SqT.of (z.1 _ _ eT List.not_mem_nil)) (fun t y M gy z => ?_) (fun M z => ?_)
    · obtain ⟨kM, bs, eW, lb, hb⟩ := z
      obtain ⟨dd, gd, dy⟩ := (dku.keep kM).getv t gy
      rw [List.getElem?_map] at gd
      obtain ⟨k, gk, rfl⟩ := Option.map_eq_some_iff.mp gd
      obtain ⟨bb, ys, rfl, _, ebb, dbb⟩ := tup_at (show Dt [] M y (.tuple [.int k.1, .int k.2]) from dy)
      have hys : ys = [.int k.1, .int k.2] := Dts.unints (ns := [k.1, k.2]) dbb
      subst hys
      refine ⟨bb, _, rfl, SqT.of ebb, rfl, _, _, rfl, _, [], rfl, rfl, ?_⟩
      refine ⟨rfl, .int k.1, rfl, .ref za, rfl, za, _, 1, .int b, rfl, rfl, SqT.of (kM _ _ eza List.not_mem_nil), atI_nat (j := 1) rfl, rfl, ?_⟩
      have tk : ∀ x, x ∈ (pr ps i).na.take (t + 1) ↔ x ∈ (pr ps i).na.take t ∨ x = k := fun x => by
        rw [List.take_add_one, gk, List.mem_append]
        exact or_congr_right (by simp)
      have few : bs.length < sizeLine := by
        have h1 := (List.getElem?_eq_some_iff.mp gk).1
        have h2 := (hk.ok _ (pr_mem i0 i1).1).fit.nle
        exact Nat.lt_of_le_of_lt (show bs.length ≤ 1000 by omega) (by decide)
      have nxt : ∀ c : Bool, (c = true ↔ k.1 = b ∧ k.2 < s) → ((bs ++ [c]).any id = true ↔ ∃ w, (b, w) ∈ (pr ps i).na.take (t + 1) ∧ w < s) := fun c hc => by
        rw [List.any_append, Bool.or_eq_true, hb]
        constructor
        · rintro (⟨w, m, h⟩ | h)
          · exact ⟨w, (tk _).mpr (.inl m), h⟩
          · have := hc.mp (by simpa using h)
            exact ⟨k.2, (tk _).mpr (.inr (by rw [← this.1])), this.2⟩
        · rintro ⟨w, m, h⟩
          rcases (tk _).mp m with m | e
          · exact .inl ⟨w, m, h⟩
          · refine .inr ?_
            have : c = true := hc.mpr (by rw [← e]; exact ⟨rfl, h⟩)
            rw [this]; rfl
      refine ⟨_, rfl, ite2 (fun c => ?_) (fun c => ?_)⟩
      · have kb : k.1 = b := by have := of_decide_eq_true c; cases this; rfl
        exact ⟨.int k.2, rfl, .int s, rfl, k.2, s, rfl, rfl, _, eW, by rw [List.length_map]; exact few, kM.upd nW, bs ++ [decide (k.2 < s)], by rw [upd_same, List.map_append]; rfl, by rw [List.length_append]; exact Nat.add_le_add_right lb 1, nxt _ ⟨fun h => ⟨kb, of_decide_eq_true h⟩, fun h => decide_eq_true h.2⟩⟩
      · have kb : ¬ k.1 = b := fun e => c (by rw [e]; exact decide_eq_true rfl)
        exact ⟨_, eW, by rw [List.length_map]; exact few, kM.upd nW, bs ++ [false], by rw [upd_same, List.map_append]; rfl, by rw [List.length_append]; exact Nat.add_le_add_right lb 1, nxt _ ⟨fun h => Bool.noConfusion h, fun h => absurd h.1 kb⟩⟩
    · obtain ⟨kM, bs, eW, lb, hb⟩ := z
      rw [lku, List.take_length] at hb
      refine ⟨W, bs, rfl, SqL.of eW, q _ _ kM (hb.trans ⟨fun ⟨w, m, h⟩ => ⟨i, b, w, rfl, m, h⟩, fun ⟨i', b', w, e, m, h⟩ => ?_⟩)⟩
      cases e
      exact ⟨w, m, h⟩
abbrev sKFt : Stmt := topS 71
abbrev nKFt : List Str := ["plan", "rope", "pieces", "behind", "size"]
theorem scKFt : FnScope nKFt ["plan", "rope", "pieces"] (defScope sKFt) := ⟨rfl, rfl, rfl, by decide +kernel, rfl, by decide +kernel, by decide +kernel⟩
def KFits (ps : List Pi) (pcs : List (List Int)) (k : Int × Int) : Prop := ∀ i b w, along ps pcs k.1 = [i, b] → (b, w) ∈ (pr ps i).na → k.2 ≤ w
def spKFt (C : Addr) : Sp := fun vs H Q _ => ∃ (a Lp : Addr) (v : V) (n l : Int) (ps : List Pi) (d : Int → Int → Int) (ks : List (Int × Int)) (us : List V) (pcs : List (List Int)), vs = [.ref a, v, .ref Lp] ∧ PlanAt C [] H a n ps d ∧ HouseOk n ps ∧ Dt [] H v (ropeD l ks) ∧ ks.length ≤ 1000 ∧ H Lp = some (.lst us) ∧ Dts [] H us (pcs.map tupI) ∧ pcs ≠ [] ∧ pcs.length ≤ 1000 ∧ (∀ c ∈ pcs, PcOk ps c) ∧ (∀ k ∈ ks, okP n ps (along ps pcs k.1)) ∧
  ∀ (H' : Hp) (c : Bool), Keep [] H H' → (c = true ↔ ∀ k ∈ ks, KFits ps pcs k) → Q (.bl c) H'
theorem ok_kFt (h : Has K mg "knots_fit" sKFt) {C : Addr} (CN : Can P w K mg base "is_narrower" ["plan", "place", "size"] 1 (spNar C)) (CP : Can P w K mg base "place_along" ["plan", "pieces", "steps"] 2 (spPAl C)) : Can P w K mg base "knots_fit" ["plan", "rope", "pieces"] 3 (spKFt C) := by
  obtain ⟨f, fd, F, g⟩ := h
  refine ⟨f, fd, F.ok (k := 2) scKFt (fun vs H Q E h => ?_) (fun cdv A outer s H vs Q E hr h => ?_), g, F.kp, F.binds fun _ _ _ _ _ _ us hl => match us, hl with | [_, _, _], _ => rfl⟩
  · obtain ⟨a, Lp, v, n, l, ps, d, ks, us, pcs, rfl, _⟩ := h
    rfl
  · obtain ⟨a, Lp, v, n, l, ps, d, ks, us, pcs, rfl, pl, hk, dr, k1000, eLp, du, pne, p1000, okc, oka, q⟩ := h
    refine ⟨_, pss_cons (ps_for PassesOwn.never rfl (pi_tup (pe_ix ix_tup (pv 1) pe_int (fun _ _ => rfl))) (pg_tup (by rfl) (pgs_cons (pg_name (i := 3) scKFt.nd rfl (by first | exact Or.inl rfl | exact Or.inr rfl)) (pgs_cons (pg_name (i := 4) scKFt.nd rfl (by first | exact Or.inl rfl | exact Or.inr rfl)) pgs_nil)))
      (pss_one (ps_if (pt_val (pe_can CN (hr.mono (by decide)) (by rfl) (pa_cons (pv 0) (pa_cons (pe_can CP (hr.mono (by decide)) (by rfl) (pa_cons (pv 0) (pa_cons (pv 2) (pa_cons (pv 3) pa_nil)))) (pa_cons (pv 4) pa_nil))))) (pss_one (ps_ret pe_bl)) pss_nil)))
      (pss_one (ps_ret pe_bl)), ?_⟩
    obtain ⟨ra, ys, rfl, _, era, dra⟩ := tup_at (show Dt [] H v (.tuple [.int l, .tuple (ks.map prD)]) from dr)
    cases dra with
    | cons dl dra => cases dra with
      | cons dk dra =>
        cases dl
        cases dra
        obtain ⟨T, ku, rfl, _, eT, dku⟩ := tup_at dk
        have lku : ku.length = ks.length := by rw [dku.len, List.length_map]
        refine ⟨.ref ra, rfl, ra, _, 1, .ref T, rfl, rfl, SqT.of era, atI_nat (j := 1) rfl, T, rfl, ⟨_, SqT.of eT⟩, for_tup (K := K) (a := T) (xs := ku) (fun t σ M => ∃ s3 s4 : Option V, σ = [some (.ref a), some (.ref ra), some (.ref Lp), s3, s4] ∧ Keep [] H M ∧ ∀ k ∈ ks.take t, KFits ps pcs k)
          ⟨_, _, rfl, Keep.refl _ _, fun k m => absurd m (by rw [List.take_zero]; exact List.not_mem_nil)⟩ (fun t σ M _ z => ?_) (fun t y σ M gy z => ?_) (fun σ M z => ?_)⟩
        · obtain ⟨_, _, _, kM, _⟩ := z
          exact SqT.of (kM _ _ eT List.not_mem_nil)
        · obtain ⟨s3, s4, rfl, kM, hb⟩ := z
          obtain ⟨dd, gd, dy⟩ := (dku.keep kM).getv t gy
          rw [List.getElem?_map] at gd
          obtain ⟨k, gk, rfl⟩ := Option.map_eq_some_iff.mp gd
          obtain ⟨bb, ys, rfl, _, ebb, dbb⟩ := tup_at (show Dt [] M y (.tuple [.int k.1, .int k.2]) from dy)
          have hys : ys = [.int k.1, .int k.2] := Dts.unints (ns := [k.1, k.2]) dbb
          subst hys
          have mk := List.mem_of_getElem? gk
          have tk : ∀ x, x ∈ ks.take (t + 1) ↔ x ∈ ks.take t ∨ x = k := fun x => by
            rw [List.take_add_one, gk, List.mem_append]
            exact or_congr_right (by simp)
          refine ⟨bb, _, rfl, SqT.of ebb, rfl, _, _, rfl, _, [], rfl, rfl, ?_⟩
          refine ⟨.ref a, rfl, .ref a, rfl, .ref Lp, rfl, .int k.1, rfl, a, Lp, n, k.1, ps, d, us, pcs, [], rfl, pl.keep kM, kM _ _ eLp List.not_mem_nil, du.keep kM, pne, p1000, okc, fun _ m => absurd m List.not_mem_nil, fun G v kG _ dv => ⟨.int k.2, rfl, a, v, n, k.2, ps, d, along ps pcs k.1, rfl, pl.keep (kM.trans kG), hk, dv, oka k mk, fun G2 c kG2 hc => ⟨_, rfl, ite2 (fun c1 => ?_) (fun c1 => ?_)⟩⟩⟩
          · refine q _ _ ((kM.trans kG).trans kG2) ⟨fun h => Bool.noConfusion h, fun h => ?_⟩
            obtain ⟨i, b, w, e, m, lt⟩ := hc.mp c1
            have := h k mk i b w e m
            omega
          · refine ⟨_, _, rfl, (kM.trans kG).trans kG2, fun x m => ?_⟩
            rcases (tk x).mp m with m | rfl
            · exact hb x m
            · exact fun i b w e m => Int.not_lt.mp fun lt => c1 (hc.mpr ⟨i, b, w, e, m, lt⟩)
        · obtain ⟨s3, s4, rfl, kM, hb⟩ := z
          rw [lku, List.take_length] at hb
          exact q _ _ kM ⟨fun _ => hb, fun _ => rfl⟩
end
end Rw

namespace Rw
open PySem PySem.Spec PyProof.Rows L2
theorem pl_of {n : Int} {ps : List Pi} {d : PyData} (h : isPlace n (ps.map Pi.dat) d = true) : ∃ z, d = tupI z ∧ okP n ps z := by
  have wi : ∀ {d : PyData} {lo hi : Int}, within d lo hi = true → ∃ i, d = .int i ∧ lo ≤ i ∧ i ≤ hi := fun {d lo hi} h => by
    cases d with
    | int i =>
      have h' : (decide (lo ≤ i) && decide (i ≤ hi)) = true := h
      rw [Bool.and_eq_true] at h'
      exact ⟨i, rfl, of_decide_eq_true h'.1, of_decide_eq_true h'.2⟩
    | none => cases h
    | bool _ => cases h
    | str _ => cases h
    | list _ => cases h
    | tuple _ => cases h
    | dict _ => cases h
  unfold isPlace at h
  split at h
  · obtain ⟨i, rfl, i0, i1⟩ := wi h
    exact ⟨[i], rfl, i0, by omega⟩
  · rename_i p y
    rw [Bool.and_eq_true] at h
    obtain ⟨i, e, i0, i1⟩ := wi h.1
    cases e
    obtain ⟨a, rfl, a0, a1⟩ := wi h.2
    rw [List.length_map] at i1
    have el : lenOf ((ps.map Pi.dat).getD p.toNat .none) = (pr ps p).l := by
      rw [List.getD_eq_getElem?_getD, List.getElem?_map, (pr_mem i0 (by omega)).2]; rfl
    rw [el] at a1
    exact ⟨[p, a], rfl, i0, by omega, a0, a1⟩
  · cases h
theorem two_of {dl : PyData} (h : tupOf dl 2 = true) : ∃ a b, dl = .tuple [a, b] := by
  unfold tupOf at h
  split at h
  · rename_i xs
    have h2 := of_decide_eq_true h
    match xs, h2 with
    | [a, b], _ => exact ⟨a, b, rfl⟩
    | [], h2 => exact absurd h2 (by decide)
    | [_], h2 => exact absurd h2 (by show ¬ (((0 + 1 : Nat) : Int) = 2); decide)
    | _ :: _ :: _ :: r, h2 => simp only [List.length_cons] at h2; omega
  · cases h
theorem along0 {ps : List Pi} : ∀ {p q : Pl} {r : List (List Int)}, Chn ps p r q → r ≠ [] → along ps r 0 = p
  | _, _, _, .nil _, h => absurd rfl h
  | _, _, _, .cons (c := c) (r := r) _ _, _ => by
    have e : nm ps (c.getD 0 0) (pat c 0) = beg ps c := by
      unfold beg pat
      split
      · rw [Int.add_zero]
      · rw [Int.sub_zero]
    have p0 : 0 ≤ plen c := by unfold plen ab; split <;> omega
    cases r with
    | nil => exact e
    | cons _ _ => show (if (0 : Int) ≤ plen c then _ else _) = _; rw [if_pos p0]; exact e
section
variable {P : Program} {w : World} {K : PySem.W.Frag} {mg : Str → Option Value} {base : Heap}
abbrev sStI : Stmt := topS 70
abbrev nStI : List Str := ["plan", "rope", "thing", "tail", "head"]
theorem scStI : FnScope nStI ["plan", "rope", "thing"] (defScope sStI) := ⟨rfl, rfl, rfl, by decide +kernel, rfl, by decide +kernel, by decide +kernel⟩
def StandOf (n : Int) (ps : List Pi) (d : Int → Int → Int) (l : Int) (ks : List (Int × Int)) (dl : PyData) : Prop := ∃ p q, dl = .tuple [tupI p, tupI q] ∧ okP n ps p ∧ okP n ps q ∧ Dp ps d p q = l ∧ ∀ k ∈ ks, ∀ z, At n ps d q p z k.1 → ∀ i b w, z = [i, b] → (b, w) ∈ (pr ps i).na → k.2 ≤ w
def spStI (C : Addr) : Sp := fun vs H Q _ => ∃ (a : Addr) (v tv : V) (n l : Int) (ps : List Pi) (d : Int → Int → Int) (ks : List (Int × Int)) (dl : PyData), vs = [.ref a, v, tv] ∧ PlanAt C [] H a n ps d ∧ HouseOk n ps ∧ Tm n ps d ∧ Dt [] H v (ropeD l ks) ∧ okR l ks ∧ Dt [] H tv dl ∧
  ∀ (H' : Hp) (c : Bool), Keep [] H H' → (c = true ↔ StandOf n ps d l ks dl) → Q (.bl c) H'
theorem ok_stI (h : Has K mg "is_stand_in" sStI) {C : Addr} (X : PlanTxt K C) (CT : Can P w K mg base "is_tuple_of" ["thing", "many"] 1 spTupOf) (CP : Can P w K mg base "is_place" ["house", "thing"] 3 spPlaceP) (CG : Can P w K mg base "gap_of" ["plan", "one", "other"] 3 (spGap C)) (CR : Can P w K mg base "row_of" ["plan", "one", "other"] 3 (spRow C)) (CK : Can P w K mg base "knots_fit" ["plan", "rope", "pieces"] 3 (spKFt C)) : Can P w K mg base "is_stand_in" ["plan", "rope", "thing"] 5 (spStI C) := by
  obtain ⟨f, fd, F, g⟩ := h
  refine ⟨f, fd, F.ok (k := 4) scStI (fun vs H Q E h => ?_) (fun cdv A outer s H vs Q E hr h => ?_), g, F.kp, F.binds fun _ _ _ _ _ _ us hl => match us, hl with | [_, _, _], _ => rfl⟩
  · obtain ⟨a, v, tv, n, l, ps, d, ks, dl, rfl, _⟩ := h
    rfl
  · obtain ⟨a, v, tv, n, l, ps, d, ks, dl, rfl, pl, hk, T, dr, okr, dtv, q⟩ := h
    refine ⟨_, pss_cons (ps_if (pt_not (pt_val (pe_can CT (hr.mono (by decide)) (by rfl) (pa_cons (pv 2) (pa_cons pe_int pa_nil))))) (pss_one (ps_ret pe_bl)) pss_nil)
      (pss_cons (ps_asg (pv 2) (pg_tup (by rfl) (pgs_cons (pg_name (i := 3) scStI.nd rfl (by first | exact Or.inl rfl | exact Or.inr rfl)) (pgs_cons (pg_name (i := 4) scStI.nd rfl (by first | exact Or.inl rfl | exact Or.inr rfl)) pgs_nil))))
      (pss_cons (ps_if (PW.pt (pw_or (pt_not (pt_val (pe_can CP (hr.mono (by decide)) (by rfl) (pa_cons (pe_fld (pv 0) rfl) (pa_cons (pv 3) pa_nil))))) (pw_or1 (pt_not (pt_val (pe_can CP (hr.mono (by decide)) (by rfl) (pa_cons (pe_fld (pv 0) rfl) (pa_cons (pv 4) pa_nil)))))))) (pss_one (ps_ret pe_bl)) pss_nil)
      (pss_one (ps_ret (pe_and (pe_cmpR op_eq (pe_can CG (hr.mono (by decide)) (by rfl) (pa_cons (pv 0) (pa_cons (pv 3) (pa_cons (pv 4) pa_nil)))) (pe_ix ix_tup (pv 1) pe_int (fun _ _ => rfl)) (nomark _)) (pe_one (pe_can CK (hr.mono (by decide)) (by rfl) (pa_cons (pv 0) (pa_cons (pv 1) (pa_cons (pe_can CR (hr.mono (by decide)) (by rfl) (pa_cons (pv 0) (pa_cons (pv 4) (pa_cons (pv 3) pa_nil)))) pa_nil)))))))))), ?_⟩
    refine ⟨tv, rfl, tv, dl, _, _, rfl, dtv, _, rfl, ite2 (fun c2 => ?_) (fun c2 => ?_)⟩
    · refine q _ _ (Keep.refl _ _) ⟨fun h => Bool.noConfusion h, fun ⟨p, q', e, _⟩ => ?_⟩
      subst e
      exact absurd c2 (by simp [tupOf])
    have t2 : tupOf dl 2 = true := by revert c2; cases tupOf dl 2 <;> simp
    obtain ⟨dp, dq, rfl⟩ := two_of t2
    obtain ⟨ta, xs, rfl, _, eta, dxs⟩ := tup_at dtv
    rcases dxs with _ | ⟨d1, _ | ⟨d2, _ | _⟩⟩
    rename_i v1 v2
    have pl' := pl
    obtain ⟨dx, hb, pp, ddl, gl, tl, xp, ds, gs, ws, a1', a2, a3, a4, a5, a6, a7, _⟩ := pl'
    refine ⟨.ref ta, rfl, ta, _, rfl, SqT.of eta, rfl, _, _, rfl, _, [], rfl, rfl, ?_⟩
    have dhb : Dt [] H (.ref hb) (houseD n (ps.map Pi.dat)) := .tup List.not_mem_nil a4 (.cons (.int n) (.cons (.tup List.not_mem_nil a6 a7) .nil))
    refine ⟨.ref a, rfl, a, C, dx, _, .ref hb, rfl, a2, X.cl, X.nB, pf_built .., v1, rfl, .ref hb, v1, n, _, dp, [], [], rfl, dhb, pis_ok ps, d1, _, rfl, ite2 (fun c3 => ?_) (fun c3 => ?_)⟩
    · refine ite2 (fun _ => ?_) (fun h => absurd rfl h)
      refine q _ _ (Keep.refl _ _) ⟨fun h => Bool.noConfusion h, fun ⟨p, q', e, okp, okq, _⟩ => ?_⟩
      cases e
      rw [ok_isPlace okp] at c3
      cases c3
    refine ⟨.ref a, rfl, a, C, dx, _, .ref hb, rfl, a2, X.cl, X.nB, pf_built .., v2, rfl, .ref hb, v2, n, _, dq, [], [], rfl, dhb, pis_ok ps, d2, _, rfl, ite2 (fun c4 => ?_) (fun c4 => ?_)⟩
    · refine q _ _ (Keep.refl _ _) ⟨fun h => Bool.noConfusion h, fun ⟨p, q', e, okp, okq, _⟩ => ?_⟩
      cases e
      rw [ok_isPlace okq] at c4
      cases c4
    obtain ⟨p, rfl, okp⟩ := pl_of (n := n) (ps := ps) (d := dp) (by revert c3; cases isPlace n (ps.map Pi.dat) dp <;> simp)
    obtain ⟨q', rfl, okq⟩ := pl_of (n := n) (ps := ps) (d := dq) (by revert c4; cases isPlace n (ps.map Pi.dat) dq <;> simp)
    obtain ⟨ra, ys, rfl, _, era, dra⟩ := tup_at (show Dt [] H v (.tuple [.int l, .tuple (ks.map prD)]) from dr)
    have e0 : atI ys 0 = some (.int l) := by
      cases dra with
      | cons dl dra => cases dl; exact atI_nat (j := 0) rfl
    refine ⟨.ref a, rfl, v1, rfl, v2, rfl, a, v1, v2, n, ps, d, p, q', rfl, pl, T, d1, d2, okp, okq, fun G kG => ⟨.ref ra, rfl, ra, ys, 0, .int l, rfl, rfl, SqT.of (kG _ _ era List.not_mem_nil), e0, rfl, _, rfl, ite2 (fun c5 => ?_) (fun c5 => ?_)⟩⟩
    · have hl : Dp ps d p q' = l := by have := of_decide_eq_true c5; cases this; rfl
      refine ⟨.ref a, rfl, .ref ra, rfl, .ref a, rfl, v2, rfl, v1, rfl, a, v2, v1, n, ps, d, q', p, rfl, pl.keep kG, T, hk.n2, d2.keep kG, d1.keep kG, okq, okp, fun G1 Lp us pcs k1 eLp du ch tot p100 => ?_⟩
      have hl2 : Dp ps d q' p = l := by rw [Dp_sym T okq okp]; exact hl
      have pne : pcs ≠ [] := fun e => by
        rw [e] at tot
        have : ptot [] = 0 := rfl
        have := okr.1
        omega
      have at_z : ∀ k ∈ ks, At n ps d q' p (along ps pcs k.1) k.1 := fun k mk => by
        have kr := rising_in okr.2.2.1 k mk
        by_cases k0 : k.1 = 0
        · rw [k0, along0 ch pne]
          exact ⟨okq, Dp_self T okq, (Int.sub_zero _).symm⟩
        · have h := along_at T ch okp tot (k := k.1) (by omega) (by rw [tot, hl2]; exact kr.2)
          exact ⟨h.1, h.2.1, by rw [← tot]; exact h.2.2⟩
      have k4 := okr.2.2.2.2
      refine ⟨a, Lp, .ref ra, n, l, ps, d, ks, us, pcs, rfl, (pl.keep kG).keep k1, hk, (dr.keep kG).keep k1, by omega, eLp, du, pne, by omega, chn_pcs ch, fun k mk => (at_z k mk).1, fun H' c k2 hc => q _ _ ((kG.trans k1).trans k2) (hc.trans ⟨fun h => ⟨p, q', rfl, okp, okq, hl, fun k mk z hz i b w e m => h k mk i b w (by rw [(at_z k mk).same T okq okp hz]; exact e) m⟩, fun ⟨p2, q2, e, _, _, _, h⟩ => ?_⟩)⟩
      injection e with e
      injection e with e1 e
      injection e with e2 _
      cases tupI_inj e1
      cases tupI_inj e2
      exact fun k mk i b w e' m => h k mk _ (at_z k mk) i b w e' m
    · refine q _ _ kG ⟨fun h => Bool.noConfusion h, fun ⟨p2, q2, e, _, _, h, _⟩ => ?_⟩
      injection e with e
      injection e with e1 e
      injection e with e2 _
      rw [tupI_inj e1, tupI_inj e2, h] at c5
      exact absurd (decide_eq_true rfl) c5
abbrev sISd : Stmt := topS 69
abbrev nISd : List Str := ["house", "rope", "thing"]
theorem scISd : FnScope nISd ["house", "rope", "thing"] (defScope sISd) := ⟨rfl, rfl, rfl, by decide +kernel, rfl, by decide +kernel, by decide +kernel⟩
def spISd : Sp := fun vs H Q _ => ∃ (h v tv : V) (n l : Int) (ps : List Pi) (d : Int → Int → Int) (ks : List (Int × Int)) (dl : PyData), vs = [h, v, tv] ∧ Dt [] H h (houseD n (ps.map Pi.dat)) ∧ HouseOk n ps ∧ Tm n ps d ∧ Dt [] H v (ropeD l ks) ∧ okR l ks ∧ Dt [] H tv dl ∧
  ∀ (H' : Hp) (c : Bool), Keep [] H H' → (c = true ↔ StandOf n ps d l ks dl) → Q (.bl c) H'
theorem ok_iSd (h : Has K mg "is_stand" sISd) {C : Addr} (CPn : CanMk P w K mg base "Plan" C ["self", "house"] 2 (spInit C)) (CS : Can P w K mg base "is_stand_in" ["plan", "rope", "thing"] 5 (spStI C)) : Can P w K mg base "is_stand" ["house", "rope", "thing"] 6 spISd := by
  obtain ⟨f, fd, F, g⟩ := h
  refine ⟨f, fd, F.ok (k := 5) scISd (fun vs H Q E h => ?_) (fun cdv A outer s H vs Q E hr h => ?_), g, F.kp, F.binds fun _ _ _ _ _ _ us hl => match us, hl with | [_, _, _], _ => rfl⟩
  · obtain ⟨h, v, tv, n, l, ps, d, ks, dl, rfl, _⟩ := h
    rfl
  · obtain ⟨h, v, tv, n, l, ps, d, ks, dl, rfl, hh, hk, T, dr, okr, dtv, q⟩ := h
    refine ⟨_, pss_one (ps_ret (pe_can CS (hr.mono (by decide)) (by rfl) (pa_cons (pe_mk CPn (hr.mono (by decide)) (by rfl) (pa_cons (pv 0) pa_nil)) (pa_cons (pv 1) (pa_cons (pv 2) pa_nil))))), ?_⟩
    refine ⟨h, rfl, fun x dx nx ndx ne => plan_made (C := C) hh hk T (fun _ m => absurd m List.not_mem_nil) nx ndx ne (fun H1 k1 _ pl => ?_)⟩
    exact ⟨rfl, v, rfl, tv, rfl, x, v, tv, n, l, ps, d, ks, dl, rfl, pl, hk, T, dr.keep k1, okr, dtv.keep k1, fun H2 c k2 hc => q H2 c (k1.trans k2) hc⟩
end
end Rw

namespace Rw
open PySem PySem.Spec PyProof.Rows L2
def risD (hi : Int) : Int → List PyData → Bool
  | _, [] => true
  | lo, x :: xs => match x with
    | .tuple [.int i, _] => decide (lo ≤ i) && decide (i ≤ hi) && risD hi (i + 1) xs
    | _ => false
def risT (lo hi : Int) : PyData → Bool
  | .tuple ds => risD hi lo ds
  | _ => false
theorem risD_no {hi lo : Int} {x : PyData} {xs : List PyData} (h : tupOf x 2 = false ∨ ∃ a b, x = .tuple [a, b] ∧ within a lo hi = false) : risD hi lo (x :: xs) = false := by
  unfold risD
  split
  · rename_i i b
    rcases h with h | ⟨a, b', e, h⟩
    · exact absurd h (by simp [tupOf])
    · cases e
      have h' : (decide (lo ≤ i) && decide (i ≤ hi)) = false := h
      rw [h']; rfl
  · rfl
theorem risD_yes {hi lo i : Int} {b : PyData} {xs : List PyData} (h : within (.int i) lo hi = true) : risD hi lo (.tuple [.int i, b] :: xs) = risD hi (i + 1) xs := by
  have h' : (decide (lo ≤ i) && decide (i ≤ hi)) = true := h
  show (decide (lo ≤ i) && decide (i ≤ hi) && risD hi (i + 1) xs) = _
  rw [h']; rfl
theorem within_int {a : PyData} {lo hi : Int} (h : within a lo hi = true) : ∃ i, a = .int i := by
  cases a with
  | int i => exact ⟨i, rfl⟩
  | none => cases h
  | bool _ => cases h
  | str _ => cases h
  | list _ => cases h
  | tuple _ => cases h
  | dict _ => cases h
theorem ris_pair {hi : Int} : ∀ {xs : List PyData} {lo : Int}, risD hi lo xs = true → ∀ x ∈ xs, ∃ i s, x = .tuple [.int i, s]
  | [], _, _, x, m => nomatch m
  | y :: xs, lo, h, x, m => by
    unfold risD at h
    split at h
    · rename_i i s
      rcases List.mem_cons.mp m with rfl | m
      · exact ⟨i, s, rfl⟩
      · exact ris_pair (Bool.and_eq_true _ _ ▸ h).2 x m
    · cases h
section
variable {P : Program} {w : World} {K : PySem.W.Frag} {mg : Str → Option Value} {base : Heap}
abbrev sRPg : Stmt := topS 42
abbrev nRPg : List Str := ["thing", "low", "high", "least", "pair"]
theorem scRPg : FnScope nRPg ["thing", "low", "high"] (defScope sRPg) := ⟨rfl, rfl, rfl, by decide +kernel, rfl, by decide +kernel, by decide +kernel⟩
def spRPg : Sp := fun vs H Q _ => ∃ (v : V) (lo hi : Int) (dl : PyData), vs = [v, .int lo, .int hi] ∧ Dt [] H v dl ∧ Q (.bl (risT lo hi dl)) H
theorem ok_rPg (h : Has K mg "are_rising_pairs" sRPg) (B : Blt mg) (CT : Can P w K mg base "is_tuple_of" ["thing", "many"] 1 spTupOf) (CW : Can P w K mg base "is_within" ["thing", "low", "high"] 2 spWithin) : Can P w K mg base "are_rising_pairs" ["thing", "low", "high"] 3 spRPg := by
  obtain ⟨f, fd, F, g⟩ := h
  refine ⟨f, fd, F.ok (k := 2) scRPg (fun vs H Q E h => ?_) (fun cdv A outer s H vs Q E hr h => ?_), g, F.kp, F.binds fun _ _ _ _ _ _ us hl => match us, hl with | [_, _, _], _ => rfl⟩
  · obtain ⟨v, lo, hi, dl, rfl, _⟩ := h
    rfl
  · obtain ⟨v, lo, hi, dl, rfl, dv, q⟩ := h
    refine ⟨_, pss_cons (ps_if (pt_not (pt_val (pe_callB (call_isD kit_tup) (by rfl) B.isi boot_isinstance (pa_cons (pv 0) (pa_cons (pe_bltn (v := .ty "tuple") (by rfl) B.tuple_ boot_tuple rfl) pa_nil))))) (pss_one (ps_ret pe_bl)) pss_nil)
      (pss_cons (ps_set (i := 3) scRPg.nd rfl (by first | exact Or.inl rfl | exact Or.inr rfl) (pv 1))
      (pss_cons (ps_for PassesOwn.never rfl (pi_tup (pv 0)) (pg_name (i := 4) scRPg.nd rfl (by first | exact Or.inl rfl | exact Or.inr rfl))
      (pss_cons (ps_if (PW.pt (pw_or (pt_not (pt_val (pe_can CT (hr.mono (by decide)) (by rfl) (pa_cons (pv 4) (pa_cons pe_int pa_nil))))) (pw_or1 (pt_not (pt_val (pe_can CW (hr.mono (by decide)) (by rfl) (pa_cons (pe_ix ix_tup (pv 4) pe_int (fun _ _ => rfl)) (pa_cons (pv 3) (pa_cons (pv 2) pa_nil))))))))) (pss_one (ps_ret pe_bl)) pss_nil)
      (pss_one (ps_set (i := 3) scRPg.nd rfl (by first | exact Or.inl rfl | exact Or.inr rfl) (pe_op op_add (pe_ix ix_tup (pv 4) pe_int (fun _ _ => rfl)) pe_int)))))
      (pss_one (ps_ret pe_bl)))), ?_⟩
    refine ⟨v, rfl, v, dl, [], rfl, dv, _, rfl, ite2 (fun c => ?_) (fun c => ?_)⟩
    · have e : risT lo hi dl = false := by
        cases dl <;> first | rfl | exact absurd c (by simp [aTup])
      rw [e] at q; exact q
    obtain ⟨ds, rfl⟩ : ∃ ds, dl = .tuple ds := by
      cases dl with
      | tuple ds => exact ⟨ds, rfl⟩
      | _ => exact absurd rfl c
    obtain ⟨T, xs, rfl, _, eT, dxs⟩ := tup_at dv
    have lx := dxs.len
    refine ⟨.int lo, rfl, ?_⟩
    refine ⟨.ref T, rfl, T, rfl, ⟨_, SqT.of eT⟩, for_tup (K := K) (a := T) (xs := xs) (fun t σ M => ∃ (lo' : Int) (s4 : Option V), σ = [some (.ref T), some (.int lo), some (.int hi), some (.int lo'), s4] ∧ M = H ∧ risD hi lo ds = risD hi lo' (ds.drop t))
      ⟨lo, _, rfl, rfl, by rw [List.drop_zero]⟩ (fun t σ M _ z => ?_) (fun t y σ M gy z => ?_) (fun σ M z => ?_)⟩
    · obtain ⟨_, _, _, rfl, _⟩ := z
      exact SqT.of eT
    · obtain ⟨lo', s4, rfl, rfl, hr'⟩ := z
      obtain ⟨x, gx, dy⟩ := dxs.getv t gy
      have hd : ds.drop t = x :: ds.drop (t + 1) := by
        obtain ⟨ht, e⟩ := List.getElem?_eq_some_iff.mp gx
        rw [List.drop_eq_getElem_cons ht, e]
      rw [hd] at hr'
      have no : (tupOf x 2 = false ∨ ∃ a b, x = .tuple [a, b] ∧ within a lo' hi = false) → Q (.bl false) M := fun h => by
        have : risT lo hi (.tuple ds) = false := hr'.trans (risD_no h)
        rw [this] at q; exact q
      refine ⟨y, rfl, y, x, [], 2, rfl, dy, _, rfl, ite2 (fun c2 => ?_) (fun c2 => ?_)⟩
      · exact ite2 (fun _ => no (.inl (by revert c2; cases tupOf x 2 <;> simp))) (fun h => absurd rfl h)
      obtain ⟨a, b, rfl⟩ := two_of (dl := x) (by revert c2; cases tupOf x 2 <;> simp)
      obtain ⟨ya, ys, rfl, _, eya, dys⟩ := tup_at dy
      rcases dys with _ | ⟨da, _ | ⟨db, _ | _⟩⟩
      rename_i va vb
      refine ⟨.ref ya, rfl, ya, _, 0, va, rfl, rfl, SqT.of eya, atI_nat (j := 0) rfl, .int lo', rfl, .int hi, rfl, va, a, [], lo', hi, rfl, da, _, rfl, ite2 (fun c3 => ?_) (fun c3 => ?_)⟩
      · exact no (.inr ⟨a, b, rfl, by revert c3; cases within a lo' hi <;> simp⟩)
      have w : within a lo' hi = true := by revert c3; cases within a lo' hi <;> simp
      obtain ⟨i, rfl⟩ := within_int w
      cases da
      refine ⟨.ref ya, rfl, ya, _, 0, .int i, rfl, rfl, SqT.of eya, atI_nat (j := 0) rfl, i, 1, rfl, rfl, ?_⟩
      exact ⟨i + 1, _, rfl, rfl, hr'.trans (risD_yes w)⟩
    · obtain ⟨lo', s4, rfl, rfl, hr'⟩ := z
      have : risT lo hi (.tuple ds) = true := hr'.trans (by rw [lx, List.drop_length]; rfl)
      rw [this] at q; exact q
abbrev sIRg : Stmt := topS 68
abbrev nIRg : List Str := ["thing", "length", "knots", "behind", "size"]
theorem scIRg : FnScope nIRg ["thing"] (defScope sIRg) := ⟨rfl, rfl, rfl, by decide +kernel, rfl, by decide +kernel, by decide +kernel⟩
def sizB : PyData → Bool
  | .tuple [_, s] => within s 1 1000000
  | _ => false
def isRope : PyData → Bool
  | .tuple [.int l, .tuple ks] => within (.int l) 1 100000000000000 && risD l 0 ks && decide (ks.length ≤ 4) && ks.all sizB
  | _ => false
def spIRg : Sp := fun vs H Q _ => ∃ (v : V) (dl : PyData), vs = [v] ∧ Dt [] H v dl ∧ ∀ H', Keep [] H H' → Q (.bl (isRope dl)) H'
theorem ok_iRg (h : Has K mg "is_rope" sIRg) (B : Blt mg) (cR : ∃ t, mg "REACH" = some (.int 100000000000000 t)) (cN : ∃ t, mg "KNOTS" = some (.int 4 t)) (cW : ∃ t, mg "WIDE" = some (.int 1000000 t)) (CT : Can P w K mg base "is_tuple_of" ["thing", "many"] 1 spTupOf) (CW : Can P w K mg base "is_within" ["thing", "low", "high"] 2 spWithin) (CP : Can P w K mg base "are_rising_pairs" ["thing", "low", "high"] 3 spRPg) : Can P w K mg base "is_rope" ["thing"] 4 spIRg := by
  obtain ⟨f, fd, F, g⟩ := h
  refine ⟨f, fd, F.ok (k := 3) scIRg (fun vs H Q E h => ?_) (fun cdv A outer s H vs Q E hr h => ?_), g, F.kp, F.binds fun _ _ _ _ _ _ us hl => match us, hl with | [_], _ => rfl⟩
  · obtain ⟨v, dl, rfl, _⟩ := h
    rfl
  · obtain ⟨v, dl, rfl, dv, q⟩ := h
    refine ⟨_, pss_cons (ps_if (PW.pt (pw_or (pt_not (pt_val (pe_can CT (hr.mono (by decide)) (by rfl) (pa_cons (pv 0) (pa_cons pe_int pa_nil))))) (pw_or1 (pt_not (pt_val (pe_can CW (hr.mono (by decide)) (by rfl) (pa_cons (pe_ix ix_tup (pv 0) pe_int (fun _ _ => rfl)) (pa_cons pe_int (pa_cons (pe_glob (v := .int 100000000000000) rfl cR.choose_spec ⟨_, rfl⟩) pa_nil))))))))) (pss_one (ps_ret pe_bl)) pss_nil)
      (pss_cons (ps_asg (pv 0) (pg_tup (by rfl) (pgs_cons (pg_name (i := 1) scIRg.nd rfl (by first | exact Or.inl rfl | exact Or.inr rfl)) (pgs_cons (pg_name (i := 2) scIRg.nd rfl (by first | exact Or.inl rfl | exact Or.inr rfl)) pgs_nil))))
      (pss_cons (ps_if (PW.pt (pw_or (pt_not (pt_val (pe_can CP (hr.mono (by decide)) (by rfl) (pa_cons (pv 2) (pa_cons pe_int (pa_cons (pv 1) pa_nil)))))) (pw_or1 (pt_cmpR op_gt (pe_callB call_len_seq (by rfl) B.len_ PySem.boot_len (pa_cons (pv 2) pa_nil)) (pe_glob (v := .int 4) rfl cN.choose_spec ⟨_, rfl⟩) (nomark _))))) (pss_one (ps_ret pe_bl)) pss_nil)
      (pss_one (ps_ret (pe_callB (cr_all rfl) (by rfl) B.all_ (by decide +kernel) (pa_cons (pe_lc (own := [("behind", 3), ("size", 4)]) (tt := tYes) rfl scIRg.nd (pi_tup (pv 2)) (blkOk_by (N := nIRg) (sc := defScope sIRg) (by decide +kernel)) (fun _ _ _ _ _ => (pg_tupK (K := K) (n := 2) rfl (by rfl) (pgs_cons (pg_name (i := 3) scIRg.nd rfl (by first | exact Or.inl rfl | exact Or.inr rfl)) (pgs_cons (pg_name (i := 4) scIRg.nd rfl (by first | exact Or.inl rfl | exact Or.inr rfl)) pgs_nil)))) (fun _ _ _ _ _ => pts_nil) (fun _ _ _ _ _ => (pe_can CW (hr.mono (by decide)) (by rfl) (pa_cons (pv 4) (pa_cons pe_int (pa_cons (pe_glob (v := .int 1000000) rfl cW.choose_spec ⟨_, rfl⟩) pa_nil)))))) pa_nil)))))), ?_⟩
    have no : isRope dl = false → Q (.bl false) H := fun h => by
      have := q H (Keep.refl _ _)
      rw [h] at this; exact this
    refine ⟨v, rfl, v, dl, [], 2, rfl, dv, _, rfl, ite2 (fun c2 => ?_) (fun c2 => ?_)⟩
    · refine ite2 (fun _ => no ?_) (fun h => absurd rfl h)
      unfold isRope
      split
      · exact absurd c2 (by simp [tupOf])
      · rfl
    obtain ⟨a, kd, rfl⟩ := two_of (dl := dl) (by revert c2; cases tupOf dl 2 <;> simp)
    obtain ⟨ta, xs, rfl, _, eta, dxs⟩ := tup_at dv
    rcases dxs with _ | ⟨da, _ | ⟨dk, _ | _⟩⟩
    rename_i va vk
    refine ⟨.ref ta, rfl, ta, _, 0, va, rfl, rfl, SqT.of eta, atI_nat (j := 0) rfl, va, a, [], 1, 100000000000000, rfl, da, _, rfl, ite2 (fun c3 => ?_) (fun c3 => ?_)⟩
    · refine no ?_
      have w0 : within a 1 100000000000000 = false := by revert c3; cases within a 1 100000000000000 <;> simp
      unfold isRope
      split
      · rename_i e
        cases e
        rw [w0]; rfl
      · rfl
    have w1 : within a 1 100000000000000 = true := by revert c3; cases within a 1 100000000000000 <;> simp
    obtain ⟨l, rfl⟩ := within_int w1
    cases da
    refine ⟨.ref ta, rfl, ta, _, rfl, SqT.of eta, rfl, _, _, rfl, _, [], rfl, rfl, ?_⟩
    refine ⟨vk, rfl, .int l, rfl, vk, 0, l, kd, rfl, dk, _, rfl, ite2 (fun c4 => ?_) (fun c4 => ?_)⟩
    · refine ite2 (fun _ => no ?_) (fun h => absurd rfl h)
      have r0 : risT 0 l kd = false := by revert c4; cases risT 0 l kd <;> simp
      cases kd with
      | tuple ks =>
        show (within (.int l) 1 100000000000000 && risD l 0 ks && decide (ks.length ≤ 4) && ks.all sizB) = false
        rw [show risD l 0 ks = false from r0, Bool.and_false]; rfl
      | _ => rfl
    have r1 : risT 0 l kd = true := by revert c4; cases risT 0 l kd <;> simp
    obtain ⟨ks, rfl⟩ : ∃ ks, kd = .tuple ks := by
      cases kd with
      | tuple ks => exact ⟨ks, rfl⟩
      | _ => cases r1
    have rr : risD l 0 ks = true := r1
    obtain ⟨tk, ku, rfl, _, etk, dku⟩ := tup_at dk
    have lku := dku.len
    have eR : isRope (.tuple [.int l, .tuple ks]) = (decide (ks.length ≤ 4) && ks.all sizB) := by
      show (within (.int l) 1 100000000000000 && risD l 0 ks && decide (ks.length ≤ 4) && ks.all sizB) = _
      rw [w1, rr]; rfl
    refine ⟨.ref tk, rfl, tk, _, rfl, .inr (SqT.of etk), _, _, rfl, rfl, _, rfl, ite2 (fun c5 => ?_) (fun c5 => ?_)⟩
    · refine no (by rw [eR, decide_eq_false (by have := of_decide_eq_true c5; omega)]; rfl)
    have l4 : ks.length ≤ 4 := by
      have : ¬ (4 : Int) < ku.length := fun h => c5 (decide_eq_true h)
      omega
    refine ⟨.ref tk, rfl, tk, rfl, ⟨_, SqT.of etk⟩, fun W nW => ?_⟩
    refine lc_tup (K := K) (a := tk) (xs := ku) (fun t M => Keep [] H M ∧ M W = some (.lst (((ks.take t).map sizB).map V.bl)))
      ⟨Keep.new nW, upd_same⟩ (fun t M _ z => SqT.of (z.1 _ _ etk List.not_mem_nil)) (fun t y M gy z => ?_) (fun M z => ?_)
    · obtain ⟨kM, eW⟩ := z
      obtain ⟨x, gx, dy⟩ := (dku.keep kM).getv t gy
      obtain ⟨i, s, rfl⟩ := ris_pair rr x (List.mem_of_getElem? gx)
      obtain ⟨ya, ys, rfl, _, eya, dys⟩ := tup_at dy
      rcases dys with _ | ⟨di, _ | ⟨ds, _ | _⟩⟩
      cases di
      rename_i vs
      have ht := (List.getElem?_eq_some_iff.mp gx).1
      refine ⟨ya, _, rfl, SqT.of eya, rfl, _, _, rfl, _, [], rfl, rfl, rfl, vs, rfl, vs, s, [], 1, 1000000, rfl, ds, _, eW, by rw [List.length_map, List.length_map, List.length_take]; exact Nat.lt_of_le_of_lt (show min t ks.length ≤ 4 by omega) (by decide), kM.upd nW, ?_⟩
      rw [upd_same, List.take_add_one, gx]
      simp only [List.map_append, Option.toList, List.map_cons, List.map_nil, sizB]
    · obtain ⟨kM, eW⟩ := z
      rw [lku, List.take_length] at eW
      refine ⟨W, ks.map sizB, rfl, SqL.of eW, ?_⟩
      have := q M kM
      rw [eR, decide_eq_true l4] at this
      have e : (ks.map sizB).all id = (true && ks.all sizB) := by rw [List.all_map]; rfl
      rw [e]; exact this
end
end Rw

namespace Rw
open PySem PySem.Spec PyProof.Rows L2
/-! ### pieces by which an end goes on -/
def PlF (z : Pl) : Prop := (∃ r, z = [r]) ∨ ∃ i a, z = [i, a]
theorem okP_F {n : Int} {ps : List Pi} {z : Pl} (h : okP n ps z) : PlF z := by
  rcases ok_cases h with ⟨r, e, _⟩ | ⟨i, a, e, _⟩
  · exact .inl ⟨r, e⟩
  · exact .inr ⟨i, a, e⟩
def stepsTo (c : List Int) (z : Pl) : Int :=
  if z.length = 1 ∨ z.headD 0 ≠ c.getD 0 0 then 0
  else if (c.getD 1 0 < z.getD 1 0 ∧ z.getD 1 0 < c.getD 2 0) ∨ (c.getD 2 0 < z.getD 1 0 ∧ z.getD 1 0 < c.getD 1 0) then ab (z.getD 1 0) (c.getD 1 0) else 0
def ledOn (r : List (List Int)) (c lead : List Int) : List (List Int) :=
  if c.getD 0 0 = lead.getD 0 0 then r ++ [[c.getD 0 0, c.getD 1 0, lead.getD 2 0]] else r ++ [c] ++ [lead]
def leadsL (ps : List Pi) (i b e : Int) (z : Pl) : List (List Int) :=
  if z.length = 2 then [[i, e, if b < e then (pr ps i).l else 0]]
  else ((doorsTo ps (z.headD 0) ps.length).filter fun w => decide (w.getD 0 0 ≠ i)).map fun w => [w.getD 0 0, w.getD 1 0, w.getD 3 0]
open PySem PySem.Spec PyProof.Rows L2
theorem dts_snoc {av : List Addr} {H : Hp} {d : PyData} : ∀ {ds : List PyData} {us : List V}, Dts av H us (ds ++ [d]) → ∃ ups ul, us = ups ++ [ul] ∧ Dts av H ups ds ∧ Dt av H ul d
  | [], us, h => by
    cases h with
    | cons h1 h2 => cases h2; exact ⟨[], _, rfl, .nil, h1⟩
  | d0 :: ds, us, h => by
    cases h with
    | cons h1 h2 =>
      obtain ⟨ups, ul, rfl, h3, h4⟩ := dts_snoc h2
      exact ⟨_ :: ups, ul, rfl, .cons h1 h3, h4⟩
theorem dts_snoc_map {av : List Addr} {H : Hp} {α : Type} {f : α → PyData} {c : α} {r : List α} {us : List V} (h : Dts av H us ((r ++ [c]).map f)) : ∃ ups ul, us = ups ++ [ul] ∧ Dts av H ups (r.map f) ∧ Dt av H ul (f c) := by
  rw [List.map_append] at h
  exact dts_snoc h
section
variable {P : Program} {w : World} {K : PySem.W.Frag} {mg : Str → Option Value} {base : Heap}
abbrev sSTo : Stmt := topS 62
abbrev nSTo : List Str := ["piece", "place", "pipe", "begin", "stop"]
theorem scSTo : FnScope nSTo ["piece", "place"] (defScope sSTo) := ⟨rfl, rfl, rfl, by decide +kernel, rfl, by decide +kernel, by decide +kernel⟩
def spSTo : Sp := fun vs H Q _ => ∃ (t : Addr) (v : V) (i b e : Int) (z : Pl), vs = [.ref t, v] ∧ H t = some (.tup [.int i, .int b, .int e]) ∧ Dt [] H v (tupI z) ∧ PlF z ∧ Q (.int (stepsTo [i, b, e] z)) H
theorem ok_sTo (h : Has K mg "steps_to" sSTo) (B : Blt mg) : Can P w K mg base "steps_to" ["piece", "place"] 1 spSTo := by
  obtain ⟨f, fd, F, g⟩ := h
  refine ⟨f, fd, F.ok (k := 0) scSTo (fun vs H Q E h => ?_) (fun cdv A outer s H vs Q E hr h => ?_), g, F.kp, F.binds fun _ _ _ _ _ _ us hl => match us, hl with | [_, _], _ => rfl⟩
  · obtain ⟨t, v, i, b, e, z, rfl, _⟩ := h
    rfl
  · obtain ⟨t, v, i, b, e, z, rfl, et, dz, fz, q⟩ := h
    refine ⟨_, pss_cons (ps_asg (pv 0) (pg_tup (by rfl) (pgs_cons (pg_name (i := 2) scSTo.nd rfl (by first | exact Or.inl rfl | exact Or.inr rfl)) (pgs_cons (pg_name (i := 3) scSTo.nd rfl (by first | exact Or.inl rfl | exact Or.inr rfl)) (pgs_cons (pg_name (i := 4) scSTo.nd rfl (by first | exact Or.inl rfl | exact Or.inr rfl)) pgs_nil)))))
      (pss_cons (ps_if (PW.pt (pw_or (pt_cmpR op_eq (pe_callB call_len_seq (by rfl) B.len_ PySem.boot_len (pa_cons (pv 1) pa_nil)) pe_int (nomark _)) (pw_or1 (pt_cmpR op_ne (pe_ix ix_tup (pv 1) pe_int (fun _ _ => rfl)) (pv 2) (nomark _))))) (pss_one (ps_ret pe_int)) pss_nil)
      (pss_cons (ps_if (PW.pt (pw_or (pt_chain op_lt op_lt (pv 3) (pe_ix ix_tup (pv 1) pe_int (fun _ _ => rfl)) (pv 4)) (pw_or1 (pt_chain op_lt op_lt (pv 4) (pe_ix ix_tup (pv 1) pe_int (fun _ _ => rfl)) (pv 3))))) (pss_one (ps_ret (pe_callB call_abs (by rfl) B.abs_ boot_abs (pa_cons (pe_op op_sub (pe_ix ix_tup (pv 1) pe_int (fun _ _ => rfl)) (pv 3)) pa_nil)))) pss_nil)
      (pss_one (ps_ret pe_int)))), ?_⟩
    obtain ⟨za, rfl, _, eza⟩ := tupI_at dz
    refine ⟨.ref t, rfl, t, _, rfl, SqT.of et, rfl, _, _, rfl, _, _, rfl, _, [], rfl, rfl, ?_⟩
    rcases fz with ⟨r, rfl⟩ | ⟨j, y, rfl⟩
    · refine ⟨.ref za, rfl, za, _, rfl, .inr (SqT.of eza), rfl, _, rfl, ite2 (fun c => ?_) (fun c => absurd (by simp) c)⟩
      exact iteT (by have : stepsTo [i, b, e] [r] = 0 := if_pos (.inl rfl); rw [this] at q; exact q)
    refine ⟨.ref za, rfl, za, _, rfl, .inr (SqT.of eza), rfl, _, rfl, ite2 (fun c => absurd c (by simp)) (fun _ => ?_)⟩
    refine ⟨.ref za, rfl, za, _, 0, .int j, rfl, rfl, SqT.of eza, atI_nat (j := 0) rfl, .int i, rfl, rfl, _, rfl, ite2 (fun c => ?_) (fun c => ?_)⟩
    · have ne : ¬ j = i := fun h => by subst h; simp at c
      have : stepsTo [i, b, e] [j, y] = 0 := if_pos (.inr ne)
      rw [this] at q; exact q
    have ej : j = i := by
      have : decide (V.int j = V.int i) = true := by simpa using c
      exact V.int.inj (of_decide_eq_true this)
    subst ej
    have e0 : stepsTo [j, b, e] [j, y] = if (b < y ∧ y < e) ∨ (e < y ∧ y < b) then ab y b else 0 := if_neg (fun h => h.elim (fun h => absurd h (by simp)) (fun h => h rfl))
    rw [e0] at q
    refine of_nx ?_
    by_cases cc : (b < y ∧ y < e) ∨ (e < y ∧ y < b)
    · rw [if_pos cc] at q
      refine chain_or (p := fun i j => decide (i < j)) (q := fun i j => decide (i < j)) (p' := fun i j => decide (i < j)) (q' := fun i j => decide (i < j)) (x := b) (y := y) (z := e) (x' := e) (y' := y) (z' := b) (r := true) (fun Q h => ⟨_, rfl, h⟩) (fun Q h => ⟨.ref za, rfl, za, _, 1, .int y, rfl, rfl, SqT.of eza, atI_nat (j := 1) rfl, h⟩) (fun Q h => ⟨_, rfl, h⟩) (fun Q h => ⟨_, rfl, h⟩) (fun Q h => ⟨.ref za, rfl, za, _, 1, .int y, rfl, rfl, SqT.of eza, atI_nat (j := 1) rfl, h⟩) (fun Q h => ⟨_, rfl, h⟩)
        (by simp only [Bool.or_eq_true, Bool.and_eq_true, decide_eq_true_eq]; exact cc) (iteT ?_)
      refine ⟨.ref za, rfl, za, _, 1, .int y, rfl, rfl, SqT.of eza, atI_nat (j := 1) rfl, .int b, rfl, y, b, rfl, rfl, _, rfl, ?_⟩
      rw [abs_ab]; exact q
    · rw [if_neg cc] at q
      refine chain_or (p := fun i j => decide (i < j)) (q := fun i j => decide (i < j)) (p' := fun i j => decide (i < j)) (q' := fun i j => decide (i < j)) (x := b) (y := y) (z := e) (x' := e) (y' := y) (z' := b) (r := false) (fun Q h => ⟨_, rfl, h⟩) (fun Q h => ⟨.ref za, rfl, za, _, 1, .int y, rfl, rfl, SqT.of eza, atI_nat (j := 1) rfl, h⟩) (fun Q h => ⟨_, rfl, h⟩) (fun Q h => ⟨_, rfl, h⟩) (fun Q h => ⟨.ref za, rfl, za, _, 1, .int y, rfl, rfl, SqT.of eza, atI_nat (j := 1) rfl, h⟩) (fun Q h => ⟨_, rfl, h⟩)
        (by rw [← Bool.not_eq_true, Bool.or_eq_true, Bool.and_eq_true, Bool.and_eq_true]; simp only [decide_eq_true_eq]; exact cc) (iteF ?_)
      exact q
abbrev sCTo : Stmt := topS 63
abbrev nCTo : List Str := ["piece", "steps"]
theorem scCTo : FnScope nCTo ["piece", "steps"] (defScope sCTo) := ⟨rfl, rfl, rfl, by decide +kernel, rfl, by decide +kernel, by decide +kernel⟩
def spCTo : Sp := fun vs H Q _ => ∃ (t : Addr) (i b e k : Int), vs = [.ref t, .int k] ∧ H t = some (.tup [.int i, .int b, .int e]) ∧ ∀ (H' : Hp) (T : Addr), Keep [] H H' → H' T = some (.tup [.int i, .int b, .int (pat [i, b, e] k)]) → Q (.ref T) H'
theorem ok_cTo (h : Has K mg "cut_to" sCTo) (CA : Can P w K mg base "at_along" ["piece", "steps"] 1 spAl) : Can P w K mg base "cut_to" ["piece", "steps"] 2 spCTo := by
  obtain ⟨f, fd, F, g⟩ := h
  refine ⟨f, fd, F.ok (k := 1) scCTo (fun vs H Q E h => ?_) (fun cdv A outer s H vs Q E hr h => ?_), g, F.kp, F.binds fun _ _ _ _ _ _ us hl => match us, hl with | [_, _], _ => rfl⟩
  · obtain ⟨t, i, b, e, k, rfl, _⟩ := h
    rfl
  · obtain ⟨t, i, b, e, k, rfl, et, q⟩ := h
    refine ⟨_, pss_one (ps_ret (pe_tup (pa_cons (pe_ix ix_tup (pv 0) pe_int (fun _ _ => rfl)) (pa_cons (pe_ix ix_tup (pv 0) pe_int (fun _ _ => rfl)) (pa_cons (pe_can CA (hr.mono (by decide)) (by rfl) (pa_cons (pv 0) (pa_cons (pv 1) pa_nil))) pa_nil))))), ?_⟩
    refine ⟨.ref t, rfl, t, _, 0, .int i, rfl, rfl, SqT.of et, atI_nat (j := 0) rfl, .ref t, rfl, t, _, 1, .int b, rfl, rfl, SqT.of et, atI_nat (j := 1) rfl, .ref t, rfl, .int k, rfl, t, i, b, e, k, rfl, et, show 3 ≤ sizeLine by decide, fun T nT => q _ T (Keep.new nT) upd_same⟩
abbrev sLPl : Stmt := topS 64
abbrev nLPl : List Str := ["plan", "piece"]
theorem scLPl : FnScope nLPl ["plan", "piece"] (defScope sLPl) := ⟨rfl, rfl, rfl, by decide +kernel, rfl, by decide +kernel, by decide +kernel⟩
def spLPl (C : Addr) : Sp := fun vs H Q _ => ∃ (a t : Addr) (n i b e : Int) (ps : List Pi) (d : Int → Int → Int) (av : List Addr), vs = [.ref a, .ref t] ∧ PlanAt C [] H a n ps d ∧ 0 ≤ i ∧ i < ps.length ∧ Tr av H ∧ H t = some (.tup [.int i, .int b, .int e]) ∧ ∀ (H' : Hp) (v : V), Keep [] H H' → Tr av H' → Dt av H' v (tupI (nm ps i e)) → Q v H'
theorem ok_lPl (h : Has K mg "last_place" sLPl) {C : Addr} (CP : Can P w K mg base "place_at" ["plan", "pipe", "at"] 1 (spPAt C)) : Can P w K mg base "last_place" ["plan", "piece"] 2 (spLPl C) := by
  obtain ⟨f, fd, F, g⟩ := h
  refine ⟨f, fd, F.ok (k := 1) scLPl (fun vs H Q E h => ?_) (fun cdv A outer s H vs Q E hr h => ?_), g, F.kp, F.binds fun _ _ _ _ _ _ us hl => match us, hl with | [_, _], _ => rfl⟩
  · obtain ⟨a, t, n, i, b, e, ps, d, av, rfl, _⟩ := h
    rfl
  · obtain ⟨a, t, n, i, b, e, ps, d, av, rfl, pl, i0, i1, tr, et, q⟩ := h
    refine ⟨_, pss_one (ps_ret (pe_can CP (hr.mono (by decide)) (by rfl) (pa_cons (pv 0) (pa_cons (pe_ix ix_tup (pv 1) pe_int (fun _ _ => rfl)) (pa_cons (pe_ix ix_tup (pv 1) pe_int (fun _ _ => rfl)) pa_nil))))), ?_⟩
    exact ⟨.ref a, rfl, .ref t, rfl, t, _, 0, .int i, rfl, rfl, SqT.of et, atI_nat (j := 0) rfl, .ref t, rfl, t, _, 2, .int e, rfl, rfl, SqT.of et, atI_nat (j := 2) rfl, a, n, i, e, ps, d, av, rfl, pl, i0, i1, tr, q⟩
abbrev sLOn : Stmt := topS 60
abbrev nLOn : List Str := ["row", "lead", "pipe", "begin", "stop"]
theorem scLOn : FnScope nLOn ["row", "lead"] (defScope sLOn) := ⟨rfl, rfl, rfl, by decide +kernel, rfl, by decide +kernel, by decide +kernel⟩
def spLOn : Sp := fun vs H Q _ => ∃ (Lp t : Addr) (i b e : Int) (us : List V) (r : List (List Int)) (c : List Int), vs = [.ref Lp, .ref t] ∧ H t = some (.tup [.int i, .int b, .int e]) ∧ H Lp = some (.lst us) ∧ Dts [] H us ((r ++ [c]).map tupI) ∧ (∃ i b e, c = [i, b, e]) ∧ r.length ≤ 90 ∧
  ∀ (H' : Hp) (L : Addr) (us : List V), Keep [] H H' → H L = none → H' L = some (.lst us) → Dts [] H' us ((ledOn r c [i, b, e]).map tupI) → Q (.ref L) H'
theorem ok_lOn (h : Has K mg "led_on" sLOn) : Can P w K mg base "led_on" ["row", "lead"] 1 spLOn := by
  obtain ⟨f, fd, F, g⟩ := h
  refine ⟨f, fd, F.ok (k := 0) scLOn (fun vs H Q E h => ?_) (fun cdv A outer s H vs Q E hr h => ?_), g, F.kp, F.binds fun _ _ _ _ _ _ us hl => match us, hl with | [_, _], _ => rfl⟩
  · obtain ⟨Lp, t, i, b, e, us, r, c, rfl, _⟩ := h
    rfl
  · obtain ⟨Lp, t, i, b, e, us, r, c, rfl, et, eLp, du, fc, r90, q⟩ := h
    refine ⟨_, pss_cons (ps_asg (pe_ix ix_list (pv 0) (pe_un un_neg pe_int) (fun _ _ => rfl)) (pg_tup (by rfl) (pgs_cons (pg_name (i := 2) scLOn.nd rfl (by first | exact Or.inl rfl | exact Or.inr rfl)) (pgs_cons (pg_name (i := 3) scLOn.nd rfl (by first | exact Or.inl rfl | exact Or.inr rfl)) (pgs_cons (pg_name (i := 4) scLOn.nd rfl (by first | exact Or.inl rfl | exact Or.inr rfl)) pgs_nil)))))
      (pss_cons (ps_if (pt_cmpR op_eq (pv 2) (pe_ix ix_tup (pv 1) pe_int (fun _ _ => rfl)) (nomark _)) (pss_one (ps_ret (pe_op op_cat (pe_slice sl_list (pv 0) po_none (po_some (pe_un un_neg pe_int))) (pe_lst (pa_cons (pe_tup (pa_cons (pv 2) (pa_cons (pv 3) (pa_cons (pe_ix ix_tup (pv 1) pe_int (fun _ _ => rfl)) pa_nil)))) pa_nil))))) pss_nil)
      (pss_one (ps_ret (pe_op op_cat (pv 0) (pe_lst (pa_cons (pv 1) pa_nil)))))), ?_⟩
    obtain ⟨bi, bb, be, rfl⟩ := fc
    obtain ⟨ups, ul, rfl, dups, dul⟩ := dts_snoc_map du
    obtain ⟨tl, rfl, _, etl⟩ := tupI_at dul
    have lup : ups.length = r.length := by rw [dups.len, List.length_map]
    refine ⟨.ref Lp, rfl, 1, rfl, Lp, _, -1, .ref tl, rfl, rfl, SqL.of eLp, atI_last ups _, tl, _, rfl, SqT.of etl, rfl, _, _, rfl, _, _, rfl, _, [], rfl, rfl, ?_⟩
    refine ⟨.int bi, rfl, .ref t, rfl, t, _, 0, .int i, rfl, rfl, SqT.of et, atI_nat (j := 0) rfl, rfl, _, rfl, ite2 (fun c => ?_) (fun c => ?_)⟩
    · have ec : bi = i := V.int.inj (of_decide_eq_true c)
      refine ⟨.ref Lp, rfl, 1, rfl, -1, rfl, Lp, _, rfl, SqL.of eLp, fun S nS => ?_⟩
      rw [cut_last]
      have kS : Keep [] H (upd H S (.lst ups)) := Keep.new nS
      have eS : (upd H S (.lst ups)) S = some (.lst ups) := upd_same
      generalize upd H S (.lst ups) = G0 at kS eS ⊢
      refine ⟨.int bi, rfl, .int bb, rfl, .ref t, rfl, t, _, 2, .int e, rfl, rfl, SqT.of (kS _ _ et List.not_mem_nil), atI_nat (j := 2) rfl, show 3 ≤ sizeLine by decide, fun T nT => ?_⟩
      have kT : Keep [] G0 (upd G0 T (.tup [.int bi, .int bb, .int e])) := Keep.new nT
      have eT : (upd G0 T (.tup [.int bi, .int bb, .int e])) T = some (.tup [.int bi, .int bb, .int e]) := upd_same
      generalize upd G0 T (.tup [.int bi, .int bb, .int e]) = G1 at kT eT ⊢
      refine ⟨show 1 ≤ sizeLine by decide, fun W nW => ?_⟩
      have kW : Keep [] G1 (upd G1 W (.lst [.ref T])) := Keep.new nW
      refine ⟨S, W, ups, [.ref T], rfl, rfl, kW _ _ (kT _ _ eS List.not_mem_nil) List.not_mem_nil, upd_same, by rw [lup]; exact Nat.le_trans (show r.length + 1 ≤ 91 by omega) (by decide), fun p np => ?_⟩
      have kp : Keep [] (upd G1 W (.lst [.ref T])) (upd (upd G1 W (.lst [.ref T])) p (.lst (ups ++ [.ref T]))) := Keep.new np
      have kk := kS.trans (kT.trans (kW.trans kp))
      refine q _ p _ kk ((kS.trans (kT.trans kW)).fr np) upd_same ?_
      have e1 : ledOn r [bi, bb, be] [i, b, e] = r ++ [[bi, bb, e]] := if_pos ec
      rw [e1, List.map_append]
      exact (dups.keep kk).app (.cons (.tup List.not_mem_nil (kp _ _ (kW _ _ eT List.not_mem_nil) List.not_mem_nil) (Dts.ints [bi, bb, e])) .nil)
    · have ec : ¬ bi = i := fun h => c (decide_eq_true (by rw [h]))
      refine ⟨.ref Lp, rfl, .ref t, rfl, show 1 ≤ sizeLine by decide, fun W nW => ?_⟩
      have kW : Keep [] H (upd H W (.lst [.ref t])) := Keep.new nW
      refine ⟨Lp, W, _, _, rfl, rfl, kW _ _ eLp List.not_mem_nil, upd_same, by rw [List.length_append, lup]; exact Nat.le_trans (show r.length + 1 + 1 ≤ 92 by omega) (by decide), fun p np => ?_⟩
      have kp : Keep [] (upd H W (.lst [.ref t])) (upd (upd H W (.lst [.ref t])) p (.lst (ups ++ [.ref tl] ++ [.ref t]))) := Keep.new np
      have kk := kW.trans kp
      refine q _ p _ kk (kW.fr np) upd_same ?_
      have e1 : ledOn r [bi, bb, be] [i, b, e] = r ++ [[bi, bb, be]] ++ [[i, b, e]] := if_neg ec
      rw [e1, List.map_append]
      exact (du.keep kk).app (.cons (.tup List.not_mem_nil (kk _ _ et List.not_mem_nil) (Dts.ints [i, b, e])) .nil)
abbrev sLOf : Stmt := topS 59
abbrev nLOf : List Str := ["plan", "row", "place", "pipe", "begin", "stop", "door"]
theorem scLOf : FnScope nLOf ["plan", "row", "place"] (defScope sLOf) := ⟨rfl, rfl, rfl, by decide +kernel, rfl, by decide +kernel, by decide +kernel⟩
def spLOf (C : Addr) : Sp := fun vs H Q _ => ∃ (a Lp : Addr) (zv : V) (n : Int) (ps : List Pi) (d : Int → Int → Int) (z : Pl) (us : List V) (r : List (List Int)) (i b e : Int), vs = [.ref a, .ref Lp, zv] ∧ PlanAt C [] H a n ps d ∧ HouseOk n ps ∧ H Lp = some (.lst us) ∧ Dts [] H us ((r ++ [[i, b, e]]).map tupI) ∧ 0 ≤ i ∧ i < ps.length ∧ Dt [] H zv (tupI z) ∧ okP n ps z ∧
  ∀ (H' : Hp) (L : Addr) (us : List V), Keep [] H H' → H L = none → H' L = some (.lst us) → Dts [] H' us ((leadsL ps i b e z).map tupI) → Q (.ref L) H'
theorem ok_lOf (h : Has K mg "leads_of" sLOf) {C : Addr} (B : Blt mg) (X : PlanTxt K C) : Can P w K mg base "leads_of" ["plan", "row", "place"] 1 (spLOf C) := by
  obtain ⟨f, fd, F, g⟩ := h
  refine ⟨f, fd, F.ok (k := 0) scLOf (fun vs H Q E h => ?_) (fun cdv A outer s H vs Q E hr h => ?_), g, F.kp, F.binds fun _ _ _ _ _ _ us hl => match us, hl with | [_, _, _], _ => rfl⟩
  · obtain ⟨a, Lp, zv, n, ps, d, z, us, r, i, b, e, rfl, _⟩ := h
    rfl
  · obtain ⟨a, Lp, zv, n, ps, d, z, us, r, i, b, e, rfl, pl, hk, eLp, du, i0, i1, dz, okz, q⟩ := h
    refine ⟨_, pss_cons (ps_asg (pe_ix ix_list (pv 1) (pe_un un_neg pe_int) (fun _ _ => rfl)) (pg_tup (by rfl) (pgs_cons (pg_name (i := 3) scLOf.nd rfl (by first | exact Or.inl rfl | exact Or.inr rfl)) (pgs_cons (pg_name (i := 4) scLOf.nd rfl (by first | exact Or.inl rfl | exact Or.inr rfl)) (pgs_cons (pg_name (i := 5) scLOf.nd rfl (by first | exact Or.inl rfl | exact Or.inr rfl)) pgs_nil)))))
      (pss_cons (ps_if (pt_cmpR op_eq (pe_callB call_len_seq (by rfl) B.len_ PySem.boot_len (pa_cons (pv 2) pa_nil)) pe_int (nomark _)) (pss_one (ps_ret (pe_lst (pa_cons (pe_tup (pa_cons (pv 3) (pa_cons (pv 5) (pa_cons (pe_ifExp (pt_cmpR op_lt (pv 4) (pv 5) (nomark _)) (pe_ix ix_tup (pe_ix ix_tup (pe_fld (pv 0) rfl) (pv 3) (fun _ _ => rfl)) pe_int (fun _ _ => rfl)) pe_int) pa_nil)))) pa_nil)))) pss_nil)
      (pss_one (ps_ret (pe_lc (own := [("door", 6)]) (g := gName 6) rfl scLOf.nd (pi_list (pe_ix ix_list (pe_fld (pv 0) rfl) (pe_ix ix_tup (pv 2) pe_int (fun _ _ => rfl)) (fun _ _ => rfl))) (blkOk_by (N := nLOf) (sc := defScope sLOf) (by decide +kernel)) (fun _ _ _ _ _ => (pg_name (i := 6) scLOf.nd rfl (by first | exact Or.inl rfl | exact Or.inr rfl))) (fun _ _ _ _ _ => pts_one (pt_cmpR op_ne (pe_ix (ix_tupK (K := K) rfl) (pv 6) pe_int (fun _ _ => rfl)) (pv 3) (nomark _))) (fun _ _ _ _ _ => (pe_tup (pa_cons (pe_ix (ix_tupK (K := K) rfl) (pv 6) pe_int (fun _ _ => rfl)) (pa_cons (pe_ix (ix_tupK (K := K) rfl) (pv 6) pe_int (fun _ _ => rfl)) (pa_cons (pe_ix (ix_tupK (K := K) rfl) (pv 6) pe_int (fun _ _ => rfl)) pa_nil))))))))), ?_⟩
    obtain ⟨ups, ul, rfl, dups, dul⟩ := dts_snoc_map du
    obtain ⟨tl, rfl, _, etl⟩ := tupI_at dul
    obtain ⟨za, rfl, _, eza⟩ := tupI_at dz
    refine ⟨.ref Lp, rfl, 1, rfl, Lp, _, -1, .ref tl, rfl, rfl, SqL.of eLp, atI_last ups _, tl, _, rfl, SqT.of etl, rfl, _, _, rfl, _, _, rfl, _, [], rfl, rfl, ?_⟩
    rcases ok_cases okz with ⟨r0, rfl, r00, r01⟩ | ⟨j, y, rfl, j0, j1, y0, y1⟩
    · refine ⟨.ref za, rfl, za, _, rfl, .inr (SqT.of eza), rfl, _, rfl, ite2 (fun c => absurd c (by simp)) (fun _ => ?_)⟩
      obtain ⟨dx, hb, pp, dl, gl, tlx, xp, ds, gs, ws, c1, c2, c3, c4, c5, c6, c7, c8, c9, d1, d2, d3, _⟩ := id pl
      obtain ⟨da, gda⟩ : ∃ da, ds[r0.toNat]? = some da := ⟨_, List.getElem?_eq_getElem (by omega)⟩
      obtain ⟨ts, eda, dts, lts⟩ := d3 r0.toNat da gda
      have er : ((r0.toNat : Nat) : Int) = r0 := by omega
      have dts' : Dts [] H ts ((doorsTo ps r0 ps.length).map tupI) := by
        have z : Dts [] H ts ((doorsTo ps ((r0.toNat : Nat) : Int) ps.length).map tupI) := dts
        rw [er] at z; exact z
      have tl2 : ts.length = (doorsTo ps r0 ps.length).length := by rw [dts'.len, List.length_map]
      refine ⟨.ref a, rfl, a, C, dx, _, .ref dl, rfl, c2, X.cl, X.nD, pf_doors .., .ref za, rfl, za, _, 0, .int r0, rfl, rfl, SqT.of eza, atI_nat (j := 0) rfl, dl, _, r0, .ref da, rfl, rfl, SqL.of c9, atI_of r00 (by rw [List.getElem?_map, gda]; rfl), da, rfl, ⟨_, SqL.of eda⟩, fun W nW => ?_⟩
      refine lc_list (K := K) (a := da) (xs := ts) (fun j J => Keep [] H J ∧ ∃ us : List V, J W = some (.lst us) ∧ us.length ≤ j ∧ Dts [] J us ((((((doorsTo ps r0 ps.length).take j).filter fun w => decide (w.getD 0 0 ≠ i)).map fun w => [w.getD 0 0, w.getD 1 0, w.getD 3 0])).map tupI))
        ⟨Keep.new nW, [], upd_same, Nat.le_refl _, .nil⟩ (fun j J _ p => SqL.of (p.1 da _ eda List.not_mem_nil)) (fun j x J hx p => ?_) (fun J p => ?_)
      · obtain ⟨kJ, us, eW, lu, du'⟩ := p
        have jl : j < ts.length := (List.getElem?_eq_some_iff.mp hx).1
        obtain ⟨dd, gd, dx2⟩ := (dts'.keep kJ).getv j hx
        rw [List.getElem?_map] at gd
        obtain ⟨row, grow, rfl⟩ := Option.map_eq_some_iff.mp gd
        obtain ⟨k, il, hrow⟩ := mem_doors.mp (List.mem_of_getElem? grow)
        obtain ⟨at', z, far, rfl⟩ : ∃ at' z far : Int, row = [(k : Int), at', z, far] := by
          rcases hrow with ⟨_, h⟩ | ⟨_, h⟩ <;> exact ⟨_, _, _, h⟩
        obtain ⟨Td, rfl, _, eTd⟩ := tupI_at dx2
        have tk : (doorsTo ps r0 ps.length).take (j + 1) = (doorsTo ps r0 ps.length).take j ++ [[(k : Int), at', z, far]] := by rw [List.take_add_one, grow]; rfl
        refine ⟨rfl, .ref Td, rfl, Td, _, 0, .int (k : Int), rfl, rfl, SqT.of eTd, atI_nat (j := 0) rfl, .int i, rfl, rfl, _, rfl, ite2 (fun c => ?_) (fun c => ?_)⟩
        · have ne : (k : Int) ≠ i := fun h => by rw [h] at c; simp at c
          refine ⟨.ref Td, rfl, Td, _, 0, .int (k : Int), rfl, rfl, SqT.of eTd, atI_nat (j := 0) rfl, .ref Td, rfl, Td, _, 1, .int at', rfl, rfl, SqT.of eTd, atI_nat (j := 1) rfl, .ref Td, rfl, Td, _, 3, .int far, rfl, rfl, SqT.of eTd, atI_nat (j := 3) rfl, show 3 ≤ sizeLine by decide, fun T nT => ?_⟩
          have kT : Keep [] J (upd J T (.tup [.int (k : Int), .int at', .int far])) := Keep.new nT
          have eT : (upd J T (.tup [.int (k : Int), .int at', .int far])) T = some (.tup [.int (k : Int), .int at', .int far]) := upd_same
          have eW' := kT _ _ eW List.not_mem_nil
          have nWT : T ≠ W := fun h => by rw [h, eW] at nT; cases nT
          have d0 := du'.keep kT
          generalize upd J T (.tup [.int (k : Int), .int at', .int far]) = J2 at kT eT eW' d0 ⊢
          refine ⟨us, eW', Nat.lt_of_lt_of_le (show us.length < 1000 by omega) (small1000 (by omega)), (kJ.trans kT).upd nW, us ++ [.ref T], upd_same, by rw [List.length_append]; exact Nat.add_le_add_right lu 1, ?_⟩
          have dW : Dts [W] J2 us ((((((doorsTo ps r0 ps.length).take j).filter fun w => decide (w.getD 0 0 ≠ i)).map fun w => [w.getD 0 0, w.getD 1 0, w.getD 3 0])).map tupI) := tups_off eW' d0
          rw [tk, List.filter_append, List.map_append, List.map_append]
          have e2 : ([[(k : Int), at', z, far]].filter fun w => decide (w.getD 0 0 ≠ i)) = [[(k : Int), at', z, far]] := by
            rw [List.filter_cons_of_pos (by exact decide_eq_true ne)]; rfl
          rw [e2]
          refine ((dW.keep (Keep.put List.mem_cons_self)).any).app (.cons (.tup List.not_mem_nil (by rw [upd_ne nWT]; exact eT) (Dts.ints [(k : Int), at', far])) .nil)
        · have eq : (k : Int) = i := by
            have : (V.int (k : Int)) = V.int i := by simpa using c
            exact V.int.inj this
          refine ⟨kJ, us, eW, by omega, ?_⟩
          rw [tk, List.filter_append]
          have e2 : ([[(k : Int), at', z, far]].filter fun w => decide (w.getD 0 0 ≠ i)) = [] := by
            rw [List.filter_cons_of_neg (by show ¬ decide ((k : Int) ≠ i) = true; simp [eq])]; rfl
          rw [e2, List.append_nil]
          exact du'
      · obtain ⟨kJ, us, eW, lu, du'⟩ := p
        rw [tl2, List.take_length] at du'
        refine q J W us kJ nW eW ?_
        have e1 : leadsL ps i b e [r0] = ((doorsTo ps r0 ps.length).filter fun w => decide (w.getD 0 0 ≠ i)).map fun w => [w.getD 0 0, w.getD 1 0, w.getD 3 0] := if_neg (by simp)
        rw [e1]; exact du'
    · refine ⟨.ref za, rfl, za, _, rfl, .inr (SqT.of eza), rfl, _, rfl, ite2 (fun _ => ?_) (fun c => absurd (by simp) c)⟩
      obtain ⟨dx, hb, pp, dl, gl, tlx, xp, ds, gs, ws, c1, c2, c3, c4, c5, c6, c7, _⟩ := id pl
      obtain ⟨pa, T1, T2, ga, epa, _, _, _⟩ := pi_two c7 i0 i1
      have e1 : leadsL ps i b e [j, y] = [[i, e, if b < e then (pr ps i).l else 0]] := if_pos rfl
      have fin : ∀ f, f = (if b < e then (pr ps i).l else 0) → ∀ T, H T = none → ∀ W, (upd H T (.tup [.int i, .int e, .int f])) W = none → Q (.ref W) (upd (upd H T (.tup [.int i, .int e, .int f])) W (.lst [.ref T])) := fun f hf T nT W nW => by
        have kT : Keep [] H (upd H T (.tup [.int i, .int e, .int f])) := Keep.new nT
        have kW : Keep [] (upd H T (.tup [.int i, .int e, .int f])) (upd (upd H T (.tup [.int i, .int e, .int f])) W (.lst [.ref T])) := Keep.new nW
        refine q _ W _ (kT.trans kW) (kT.fr nW) upd_same ?_
        rw [e1, ← hf]
        exact .cons (.tup List.not_mem_nil (kW _ _ upd_same List.not_mem_nil) (Dts.ints [i, e, f])) .nil
      refine ⟨.int i, rfl, .int e, rfl, .int b, rfl, .int e, rfl, b, e, rfl, rfl, _, rfl, ite2 (fun c => ?_) (fun c => ?_)⟩
      · have c' : b < e := of_decide_eq_true c
        refine ⟨.ref a, rfl, a, C, dx, _, .ref pp, rfl, c2, X.cl, X.nP, pf_pipes .., .int i, rfl, pp, xp, i, .ref pa, rfl, rfl, SqT.of c6, ga, pa, _, 2, .int (pr ps i).l, rfl, rfl, SqT.of epa, atI_nat (j := 2) rfl, show 3 ≤ sizeLine by decide, fun T nT => ⟨show 1 ≤ sizeLine by decide, fun W nW => ?_⟩⟩
        exact fin _ (by rw [if_pos c']) T nT W nW
      · have c' : ¬ b < e := fun h => c (decide_eq_true h)
        exact ⟨show 3 ≤ sizeLine by decide, fun T nT => ⟨show 1 ≤ sizeLine by decide, fun W nW => fin _ (by rw [if_neg c']) T nT W nW⟩⟩
end
end Rw

namespace Rw
open PySem PySem.Spec PyProof.Rows L2
section
variable {P : Program} {w : World} {K : PySem.W.Frag} {mg : Str → Option Value} {base : Heap}
abbrev sDraws : Stmt := topS 74
theorem scDraws : FnScope ["_law_script", "_law_cells", "_law_cell"] ["_law_script"] (defScope sDraws) := ⟨rfl, rfl, rfl, by decide +kernel, rfl, by decide +kernel, by decide +kernel⟩
def spDraws (K : PySem.W.Frag) : Sp := fun vs H Q _ => ∃ (a : Addr) (ns : List Int), vs = [.ref a] ∧ SqL K H a (ns.map V.int) ∧ ns.length ≤ 63 ∧
  ∀ H' D C R, Keep [] H H' → H D = none → H C = none → H R = none → Deck H' D C R 0 → Q (.ref D) H'
theorem abs_nn0 (i : Int) : 0 ≤ (if i < 0 then -i else i) := by split <;> omega
theorem ok_draws (h : Has K mg "_law_draws" sDraws) (B : Blt mg) : Can P w K mg base "_law_draws" ["_law_script"] 1 (spDraws K) := by
  obtain ⟨f, fd, F, g⟩ := h
  refine ⟨f, fd, F.ok (k := 0) scDraws (fun vs H Q E h => ?_) (fun cdv A outer s H vs Q E hr h => ?_), g, F.kp, F.binds fun _ _ _ _ _ _ us hl => match us, hl with | [_], _ => rfl⟩
  · obtain ⟨a, ns, rfl, _⟩ := h
    rfl
  · obtain ⟨a, ns, rfl, hS, hlen, q⟩ := h
    refine ⟨_, pss_cons (ps_set (i := 1) scDraws.nd rfl (.inl rfl) (pe_op op_cat
        (pe_lc (own := [("_law_cell", 2)]) (g := gName 2) (tt := tYes) rfl scDraws.nd (pi_list (pe_slice sl_list (pv 0) po_none (po_some pe_int))) (blkOk_by (N := ["_law_script", "_law_cells", "_law_cell"]) (sc := defScope sDraws) (by decide +kernel))
          (fun _ _ _ _ _ => pg_name (i := 2) scDraws.nd rfl (Or.inl rfl)) (fun _ _ _ _ _ => pts_nil) (fun _ _ _ _ _ => pe_callB call_abs (by rfl) B.abs_ boot_abs (pa_cons (pv 2) pa_nil)))
        (pe_op op_rep (pe_lst (pa_cons pe_int pa_nil)) (pe_callTy call_int1 (by rfl) B.int_ boot_int (pa_cons (pe_cmpR op_eq (pe_callB call_len_seq (by rfl) B.len_ PySem.boot_len (pa_cons (pv 0) pa_nil)) pe_int (nomark _)) pa_nil)))))
      (pss_one (ps_ret (pe_lst (pa_cons (pv 1) (pa_cons
        (pe_lc (own := [("_law_cell", 2)]) (g := gName 2) (tt := tYes) rfl scDraws.nd (pi_list (pv 1)) (blkOk_by (N := ["_law_script", "_law_cells", "_law_cell"]) (sc := defScope sDraws) (by decide +kernel))
          (fun _ _ _ _ _ => pg_name (i := 2) scDraws.nd rfl (Or.inl rfl)) (fun _ _ _ _ _ => pts_nil) (fun _ _ _ _ _ => pe_op op_mul (pv 2) (pe_callTy call_int1 (by rfl) B.int_ boot_int (pa_cons (pe_cmpR op_ge (pv 2) (pe_op op_pow pe_int pe_int) (nomark _)) pa_nil))))
        (pa_cons pe_int pa_nil)))))), ?_⟩
    refine ⟨.ref a, rfl, 60, rfl, a, _, rfl, hS, fun c nc => ?_⟩
    rw [show cutV (ns.map V.int) none (some 60) = (ns.take 60).map V.int by rw [show (60 : Int) = ((60 : Nat) : Int) from rfl, cut_to, List.map_take]]
    refine ⟨c, rfl, ⟨_, SqL.of upd_same⟩, fun D nD => ?_⟩
    have k1 : Keep [] H (upd H c (.lst ((ns.take 60).map V.int))) := Keep.new nc
    refine lc_list (K := K) (a := c) (xs := (ns.take 60).map V.int)
      (fun i G => Keep [] (upd H c (.lst ((ns.take 60).map V.int))) G ∧ ∃ cs : List Int, cs.length = i ∧ (∀ n ∈ cs, 0 ≤ n) ∧ G D = some (.lst (cs.map V.int)))
      ⟨Keep.new nD, [], rfl, fun _ m => absurd m List.not_mem_nil, upd_same⟩ (fun i G _ p => p.1.same.seq (SqL.of upd_same)) (fun i x G hx p => ?_) (fun G p => ?_)
    · obtain ⟨k2, cs, l2, c2, e2⟩ := p
      rw [List.getElem?_map] at hx
      obtain ⟨n, hn, rfl⟩ := Option.map_eq_some_iff.mp hx
      have hi : i < 60 := by
        have := (List.getElem?_eq_some_iff.mp hn).1
        rw [List.length_take] at this; omega
      refine ⟨rfl, .int n, rfl, n, rfl, cs.map V.int, e2, by rw [List.length_map, l2]; exact small1000 (by omega), k2.upd nD, cs ++ [if n < 0 then -n else n], by rw [List.length_append, l2]; rfl, fun z hz => ?_, by rw [upd_same, List.map_append]; rfl⟩
      rcases List.mem_append.mp hz with hz | hz
      · exact c2 z hz
      · rw [List.mem_singleton.mp hz]; exact abs_nn0 n
    · obtain ⟨k2, cs, l2, c2, e2⟩ := p
      have l3 : cs.length = min 60 ns.length := by rw [l2, List.length_map, List.length_take]
      have k3 : Keep [] H G := k1.trans k2
      refine ⟨by decide, fun z nz => ?_⟩
      have e3 : (upd G z (.lst [.int 0])) D = some (.lst (cs.map V.int)) := by rw [upd_ne (ne_of_none e2 nz)]; exact e2
      have k4 : Keep [] H (upd G z (.lst [.int 0])) := k3.trans (Keep.new nz)
      refine ⟨.ref a, rfl, a, _, rfl, .inl (k4.same.seq hS), rfl, .inr ⟨_, rfl, z, _, _, rfl, rfl, upd_same, ?_, ?_, ?_, fun y ny => ?_⟩⟩
      · split <;> decide
      · split <;> decide
      · split <;> decide
      · have k5 := k4.trans (Keep.new (av := []) (o := .lst (List.replicate (Int.toNat (if decide (V.int ((ns.map V.int).length : Int) = V.int 0) = true then 1 else 0)) [V.int 0]).flatten) ny)
        obtain ⟨zs, ez, lz, pz⟩ : ∃ zs : List Int, (List.replicate (Int.toNat (if decide (V.int ((ns.map V.int).length : Int) = V.int 0) = true then 1 else 0)) [V.int 0]).flatten = zs.map V.int ∧ zs.length ≤ 1 ∧ (∀ n ∈ zs, 0 ≤ n) ∧ (ns.length = 0 → zs.length = 1) := by
          by_cases h0 : ns.length = 0
          · refine ⟨[0], ?_, by decide, fun n hn => by rw [List.mem_singleton.mp hn]; decide, fun _ => rfl⟩
            rw [List.length_map, h0]; rfl
          · refine ⟨[], ?_, by decide, (fun n hn => nomatch hn), fun e => absurd e h0⟩
            rw [if_neg]
            · rfl
            · rw [decide_eq_true_eq, List.length_map]
              intro e
              have := V.int.inj e
              omega
        rw [ez] at k5 ⊢
        refine ⟨D, y, _, _, rfl, rfl, by rw [upd_ne (ne_of_none e3 ny)]; exact e3, upd_same, ?_, fun C nC => ?_⟩
        · rw [List.length_map, List.length_map]
          exact Nat.le_of_lt (small1000 (by omega))
        · rw [← List.map_append]
          have k6 := k5.trans (Keep.new (av := []) (o := .lst ((cs ++ zs).map V.int)) nC)
          have hall : ∀ n ∈ cs ++ zs, 0 ≤ n := fun n hn => (List.mem_append.mp hn).elim (c2 n) (pz.1 n)
          have hl1 : (cs ++ zs).length ≤ 100 := by rw [List.length_append]; omega
          have hl0 : 0 < (cs ++ zs).length := by
            rw [List.length_append]
            by_cases h0 : ns.length = 0
            · have := pz.2 h0; omega
            · omega
          generalize cs ++ zs = ms at *
          generalize hG1 : upd _ C _ = G1 at k6 ⊢
          have eC : G1 C = some (.lst (ms.map V.int)) := by rw [← hG1]; exact upd_same
          have nHC : H C = none := by
            cases hq : H C with
            | none => rfl
            | some o =>
              have := k5.same C o hq
              rw [nC] at this; cases this
          refine ⟨.ref C, rfl, .ref C, rfl, C, rfl, ⟨_, SqL.of eC⟩, fun R nR => ?_⟩
          refine lc_list (K := K) (a := C) (xs := ms.map V.int)
            (fun i J => Keep [] G1 J ∧ ∃ rs : List Int, rs.length = i ∧ (∀ n ∈ rs, 0 ≤ n) ∧ J R = some (.lst (rs.map V.int)))
            ⟨Keep.new nR, [], rfl, fun _ m => absurd m List.not_mem_nil, upd_same⟩ (fun i J _ p => p.1.same.seq (SqL.of eC)) (fun i x J hx p => ?_) (fun J p => ?_)
          · obtain ⟨k7, rs, l7, c7, e7⟩ := p
            rw [List.getElem?_map] at hx
            obtain ⟨n, hn, rfl⟩ := Option.map_eq_some_iff.mp hx
            have hi : i < ms.length := (List.getElem?_eq_some_iff.mp hn).1
            have h0n : 0 ≤ n := hall n (List.mem_of_getElem? hn)
            refine ⟨rfl, .int n, rfl, .int n, rfl, 10, 18, rfl, rfl, ⟨by decide, by decide, by decide⟩, n, _, rfl, rfl, .inr ⟨_, rfl, n, _, rfl, rfl, .inr ?_, rs.map V.int, e7, by rw [List.length_map, l7]; exact small1000 (by omega), k7.upd nR, rs ++ [n * (if decide (n ≥ 10 ^ 18) = true then 1 else 0)], by rw [List.length_append, l7]; rfl, fun z hz => ?_, by rw [upd_same, List.map_append]; rfl⟩⟩
            · constructor <;> (split <;> decide)
            · rcases List.mem_append.mp hz with hz | hz
              · exact c7 z hz
              · rw [List.mem_singleton.mp hz]
                split <;> omega
          · obtain ⟨k7, rs, l7, c7, e7⟩ := p
            have eC2 : J C = some (.lst (ms.map V.int)) := k7.same _ _ eC
            refine ⟨show 3 ≤ sizeLine by decide, fun D2 nD2 => ?_⟩
            have k8 := k6.trans (k7.trans (Keep.new (av := []) (o := .lst [.ref C, .ref R, .int 0]) nD2))
            have fr : ∀ {p : Addr} {J' : Hp}, J' p = none → Keep [] H J' → H p = none := fun {p J'} n k => by
              cases hq : H p with
              | none => rfl
              | some o => rw [k.same p o hq] at n; cases n
            refine q _ D2 C R k8 (fr nD2 (k6.trans k7)) nHC (fr nR k6) ⟨⟨ms, rs, 0, upd_same, ?_, ?_, ?_, hl0, hl1, hall, c7, by decide, by decide⟩, ?_, ?_, ?_⟩
            · rw [upd_ne (ne_of_none eC2 nD2)]; exact eC2
            · rw [upd_ne (ne_of_none e7 nD2)]; exact e7
            · rw [l7, List.length_map]
            · exact ne_of_none eC nR
            · exact (ne_of_none eC2 nD2).symm
            · exact (ne_of_none e7 nD2).symm
abbrev sNxt : Stmt := topS 75
abbrev nNxt : List Str := ["_law_draws_here", "_law_many", "_law_cells", "_law_rests", "_law_turns", "_law_at", "_law_digit", "_law_mixed"]
theorem scNxt : FnScope nNxt ["_law_draws_here", "_law_many"] (defScope sNxt) := ⟨rfl, rfl, rfl, by decide +kernel, rfl, by decide +kernel, by decide +kernel⟩
def spNxt : Sp := fun vs H Q _ => ∃ (D C R : Addr) (b m : Int), vs = [.ref D, .int m] ∧ 1 ≤ m ∧ m ≤ 100000000000000 ∧ Deck H D C R b ∧ b ≤ 1000000000 ∧
  ∀ H' k, Keep [D, R] H H' → Deck H' D C R (b + 1) → 0 ≤ k → k < m → Q (.int k) H'
theorem ok_nxt (h : Has K mg "_law_next" sNxt) (B : Blt mg) : Can P w K mg base "_law_next" ["_law_draws_here", "_law_many"] 1 spNxt := by
  obtain ⟨f, fd, F, g⟩ := h
  refine ⟨f, fd, F.ok (k := 0) scNxt (fun vs H Q E h => ?_) (fun cdv A outer s H vs Q E hr h => ?_), g, F.kp, F.binds fun _ _ _ _ _ _ us hl => match us, hl with | [_, _], _ => rfl⟩
  · obtain ⟨D, C, R, b, m, rfl, _⟩ := h
    rfl
  · obtain ⟨D, C, R, b, m, rfl, m1, m2, dk, hb, q⟩ := h
    refine ⟨_, pss_cons (ps_asg (pv 0) (pg_unl (by rfl) (pgs_cons (pg_name (i := 2) scNxt.nd rfl (by first | exact Or.inl rfl | exact Or.inr rfl)) (pgs_cons (pg_name (i := 3) scNxt.nd rfl (by first | exact Or.inl rfl | exact Or.inr rfl)) (pgs_cons (pg_name (i := 4) scNxt.nd rfl (by first | exact Or.inl rfl | exact Or.inr rfl)) pgs_nil)))))
      (pss_cons (ps_set (i := 5) scNxt.nd rfl (by first | exact Or.inl rfl | exact Or.inr rfl) (pe_op op_mod (pv 4) (pe_callB call_len_seq (by rfl) B.len_ PySem.boot_len (pa_cons (pv 2) pa_nil))))
      (pss_cons (ps_asg (pe_op op_add (pv 4) pe_int) (pg_sub (pv 0) pe_int set_list))
      (pss_cons (ps_if (pt_cmpR op_gt (pe_ix ix_list (pv 3) (pv 5) (fun _ _ => rfl)) pe_int (nomark _)) (pss_cons (ps_set (i := 6) scNxt.nd rfl (by first | exact Or.inl rfl | exact Or.inr rfl) (pe_op op_mod (pe_ix ix_list (pv 3) (pv 5) (fun _ _ => rfl)) (pv 1)))
      (pss_cons (ps_asg (pe_op op_fdivW (pe_ix ix_list (pv 3) (pv 5) (fun _ _ => rfl)) (pv 1)) (pg_sub (pv 3) (pv 5) set_list))
      (pss_one (ps_ret (pv 6))))) pss_nil)
      (pss_cons (ps_set (i := 7) scNxt.nd rfl (by first | exact Or.inl rfl | exact Or.inr rfl) (pe_op op_mod (pe_op op_pow (pe_op op_add (pe_op op_add (pe_op op_mod (pe_ix ix_list (pv 2) (pv 5) (fun _ _ => rfl)) pe_int) (pe_op op_mul pe_int (pv 4))) pe_int) pe_int) pe_int))
      (pss_cons (ps_set (i := 7) scNxt.nd rfl (by first | exact Or.inl rfl | exact Or.inr rfl) (pe_op op_mod (pe_op op_pow (pe_op op_add (pe_op op_add (pv 7) (pe_op op_mul pe_int (pe_op op_mod (pv 4) pe_int))) pe_int) pe_int) pe_int))
      (pss_one (ps_ret (pe_op op_mod (pe_op op_fdiv (pv 7) pe_int) (pv 1))))))))), ?_⟩
    obtain ⟨⟨ns, rs, c, eD, eC, eR, lr, l0, l1, pn, pr, c0, cb⟩, nCR, nDC, nDR⟩ := dk
    refine ⟨.ref D, rfl, D, _, rfl, SqL.of eD, rfl, .ref C, _, rfl, .ref R, _, rfl, .int c, [], rfl, rfl, ?_⟩
    have lnn : ((ns.map V.int).length : Int) = (ns.length : Int) := by rw [List.length_map]
    have sp0 : 0 ≤ c % (ns.length : Int) := Int.emod_nonneg _ (by omega)
    have sp1 : c % (ns.length : Int) < (ns.length : Int) := Int.emod_lt_of_pos _ (by omega)
    refine ⟨.int c, rfl, .ref C, rfl, C, _, rfl, .inl (SqL.of eC), c, _, rfl, rfl, by rw [lnn]; omega, ?_⟩
    rw [lnn]
    dsimp only
    generalize hsp : c % (ns.length : Int) = sp at sp0 sp1 ⊢
    refine ⟨.int c, rfl, c, 1, rfl, rfl, .ref D, rfl, D, _, 2, 2, rfl, rfl, eD, rfl, ?_⟩
    have eD1 : upd H D (.lst [.ref C, .ref R, .int (c + 1)]) D = some (.lst [.ref C, .ref R, .int (c + 1)]) := upd_same
    have eC1 : upd H D (.lst [.ref C, .ref R, .int (c + 1)]) C = some (.lst (ns.map V.int)) := by rw [upd_ne nDC.symm]; exact eC
    have eR1 : upd H D (.lst [.ref C, .ref R, .int (c + 1)]) R = some (.lst (rs.map V.int)) := by rw [upd_ne nDR.symm]; exact eR
    have k1 : Keep [D, R] H (upd H D (.lst [.ref C, .ref R, .int (c + 1)])) := Keep.put (by simp)
    show (_ : Prop)
    generalize hG : upd H D (.lst ([V.ref C, V.ref R, V.int c].set 2 (V.int (c + 1)))) = G
    have hG' : upd H D (.lst [.ref C, .ref R, .int (c + 1)]) = G := hG
    rw [hG'] at eD1 eC1 eR1 k1
    have atR : atI (rs.map V.int) sp = some (.int (rs.getD sp.toNat 0)) := by
      have e : ((sp.toNat : Nat) : Int) = sp := by omega
      rw [← e]
      refine atI_nat ?_
      rw [List.getElem?_map, List.getD_eq_getElem?_getD, List.getElem?_eq_getElem (show ((sp.toNat : Nat) : Int).toNat < rs.length by omega)]
      simp only [Int.toNat_natCast]
      rw [List.getElem?_eq_getElem (show sp.toNat < rs.length by omega)]; rfl
    have atC : atI (ns.map V.int) sp = some (.int (ns.getD sp.toNat 0)) := by
      have e : ((sp.toNat : Nat) : Int) = sp := by omega
      rw [← e]
      refine atI_nat ?_
      rw [List.getElem?_map, List.getD_eq_getElem?_getD]
      simp only [Int.toNat_natCast]
      rw [List.getElem?_eq_getElem (show sp.toNat < ns.length by omega)]; rfl
    generalize hr0 : rs.getD sp.toNat 0 = r at atR
    generalize hn0 : ns.getD sp.toNat 0 = n at atC
    refine ⟨.ref R, rfl, .int sp, rfl, R, _, sp, .int r, rfl, rfl, SqL.of eR1, atR, r, 0, rfl, rfl, _, rfl, ite2 (fun e => ?_) (fun e => ?_)⟩
    · have r0 : 0 < r := of_decide_eq_true e
      refine ⟨.ref R, rfl, .int sp, rfl, R, _, sp, .int r, rfl, rfl, SqL.of eR1, atR, .int m, rfl, r, m, rfl, rfl, (show (0 : Int) < m by omega), ?_⟩
      refine ⟨.ref R, rfl, .int sp, rfl, R, _, sp, .int r, rfl, rfl, SqL.of eR1, atR, .int m, rfl, r, m, rfl, rfl, wide_div (b := 64) (by omega) (by omega) (by decide) (by decide), ?_⟩
      refine ⟨.ref R, rfl, .int sp, rfl, R, _, sp, sp.toNat, rfl, rfl, eR1, ixN_at sp0 (by rw [List.length_map]; omega), ?_⟩
      rw [set_map]
      refine ⟨.int (r % m), rfl, q _ _ (k1.trans (Keep.put (by simp))) ⟨⟨ns, rs.set sp.toNat (r / m), c + 1, ?_, ?_, upd_same, ?_, l0, l1, pn, ?_, by omega, by omega⟩, nCR, nDC, nDR⟩ (Int.emod_nonneg _ (by omega)) (Int.emod_lt_of_pos _ (by omega))⟩
      · rw [upd_ne nDR]; exact eD1
      · rw [upd_ne nCR]; exact eC1
      · rw [List.length_set]; exact lr
      · intro z hz
        rcases List.mem_or_eq_of_mem_set hz with hz | hz
        · exact pr z hz
        · rw [hz]; exact Int.ediv_nonneg (by omega) (by omega)
    · have fin : ∀ x : Int, 0 ≤ x → Q (.int (x / 64 % m)) G := fun x hx =>
        q _ _ k1 ⟨⟨ns, rs, c + 1, eD1, eC1, eR1, lr, l0, l1, pn, pr, by omega, by omega⟩, nCR, nDC, nDR⟩ (Int.emod_nonneg _ (by omega)) (Int.emod_lt_of_pos _ (by omega))
      have n0 : 0 ≤ n % 2147483629 := Int.emod_nonneg _ (by decide)
      have n1 : n % 2147483629 < 2147483629 := Int.emod_lt_of_pos _ (by decide)
      have p64 : (2 : Nat) ^ 64 = 18446744073709551616 := by decide
      have bp1 : (n % 2147483629 + 30011 * c + 70003).natAbs < 2 ^ 64 := by omega
      refine ⟨.ref C, rfl, .int sp, rfl, C, _, sp, .int n, rfl, rfl, SqL.of eC1, atC, n, _, rfl, rfl, (show (0 : Int) < 2147483629 by decide), .int c, rfl, 30011, c, rfl, rfl, .inl ⟨by decide, by decide⟩, _, _, rfl, rfl, _, 70003, rfl, rfl, _, 3, rfl, rfl, ⟨by decide, by decide, bp1⟩, _, _, rfl, rfl, (show (0 : Int) < 2147483647 by decide), ?_⟩
      have y0 : 0 ≤ (n % 2147483629 + 30011 * c + 70003) ^ Int.toNat 3 % 2147483647 := Int.emod_nonneg _ (by decide)
      have y1 : (n % 2147483629 + 30011 * c + 70003) ^ Int.toNat 3 % 2147483647 < 2147483647 := Int.emod_lt_of_pos _ (by decide)
      dsimp only
      generalize (n % 2147483629 + 30011 * c + 70003) ^ Int.toNat 3 % 2147483647 = x1 at y0 y1 ⊢
      have c0' : 0 ≤ c % 997 := Int.emod_nonneg _ (by decide)
      have c1' : c % 997 < 997 := Int.emod_lt_of_pos _ (by decide)
      have bp2 : (x1 + 1299709 * (c % 997) + 11).natAbs < 2 ^ 64 := by omega
      refine ⟨.int x1, rfl, .int c, rfl, c, 997, rfl, rfl, (show (0 : Int) < 997 by decide), 1299709, _, rfl, rfl, .inl ⟨by decide, by decide⟩, x1, _, rfl, rfl, _, 11, rfl, rfl, _, 3, rfl, rfl, ⟨by decide, by decide, bp2⟩, _, _, rfl, rfl, (show (0 : Int) < 2305843009213693951 by decide), ?_⟩
      have z0 : 0 ≤ (x1 + 1299709 * (c % 997) + 11) ^ Int.toNat 3 % 2305843009213693951 := Int.emod_nonneg _ (by decide)
      dsimp only
      generalize (x1 + 1299709 * (c % 997) + 11) ^ Int.toNat 3 % 2305843009213693951 = x2 at z0 ⊢
      exact ⟨.int x2, rfl, x2, 64, rfl, rfl, ⟨by decide, by decide⟩, .int m, rfl, _, m, rfl, rfl, (show (0 : Int) < m by omega), fin x2 z0⟩
end
end Rw

namespace Rw
open PySem PySem.Spec PyProof.Rows L2
/-! ### a leg in two parts -/
def OkS (n : Int) (ps : List Pi) (d : Int → Int → Int) (l : Int) (s : Pl × Pl) : Prop := okP n ps s.1 ∧ okP n ps s.2 ∧ Dp ps d s.1 s.2 = l
section
variable {n : Int} {ps : List Pi} {d : Int → Int → Int} (T : Tm n ps d)
include T
theorem OkS.ends {l e : Int} {s : Pl × Pl} (h : OkS n ps d l s) (he : e = 0 ∨ e = 1) : okP n ps (endP e s) ∧ okP n ps (endP (1 - e) s) ∧ Dp ps d (endP (1 - e) s) (endP e s) = l := by
  obtain ⟨h1, h2, h3⟩ := h
  have sy := Dp_sym T h1 h2
  rcases he with rfl | rfl
  · exact ⟨h1, h2, by show Dp ps d s.2 s.1 = l; omega⟩
  · exact ⟨h2, h1, h3⟩
theorem withE_ends {e : Int} (he : e = 0 ∨ e = 1) (z y : Pl) : endP e (withE e z y) = z ∧ endP (1 - e) (withE e z y) = y := by
  rcases he with rfl | rfl <;> exact ⟨rfl, rfl⟩
theorem LegS.okS {l : Int} {ks : List (Int × Int)} {s s' : Pl × Pl} {e k : Int} {z : Pl} (h : LegS n ps d l ks s e z s' k) (o : OkS n ps d l s) : OkS n ps d l s' := by
  obtain ⟨he, okz, ah, _, rfl, y, hy, rfl⟩ := h
  have w : Dp ps d y z = l := by have := hy.2.2; have := ah.2; omega
  have sy := Dp_sym T hy.1 okz
  rcases he with rfl | rfl
  · exact ⟨okz, hy.1, by show Dp ps d z y = l; omega⟩
  · exact ⟨hy.1, okz, w⟩
theorem At.ext {b m z u : Pl} {y : Int} (hb : okP n ps b) (hm : okP n ps m) (hz : okP n ps z) (e : Dp ps d b z = Dp ps d b m + Dp ps d m z) (h : At n ps d b m u y) : At n ps d b z u y := by
  obtain ⟨ou, h1, h2⟩ := h
  have t1 := Dp_le T ou hm hz
  have t2 := Dp_le T hb ou hz
  exact ⟨ou, h1, by omega⟩
theorem At.shift {b c z u : Pl} {y k : Int} (hb : okP n ps b) (hc : okP n ps c) (hz : okP n ps z) (e : At n ps d b z c k) (h : At n ps d c z u y) : At n ps d b z u (y + k) := by
  obtain ⟨ou, h1, h2⟩ := h
  obtain ⟨oc, e1, e2⟩ := e
  have t1 := Dp_le T hb oc ou
  have t2 := Dp_le T hb ou hz
  exact ⟨ou, by omega, by omega⟩
theorem LegS.split {l : Int} {ks : List (Int × Int)} {s s' : Pl × Pl} {e k k1 : Int} {z m : Pl} (h : LegS n ps d l ks s e z s' k) (o : OkS n ps d l s) (hm : okP n ps m) (e1 : Dp ps d (endP e s) m = k1) (e2 : Dp ps d m z = k - k1) (k0 : 1 ≤ k1) (kk : k1 < k) :
    ∃ s1, LegS n ps d l ks s e m s1 k1 ∧ LegS n ps d l ks s1 e z s' (k - k1) := by
  obtain ⟨he, okz, ah, nb, hk, y, hy, rfl⟩ := h
  obtain ⟨oh, ob, bh⟩ := o.ends T he
  have ah1 := ah.1
  have ah2 := ah.2
  have t1 := Dp_le T ob oh hm
  have t2 := Dp_le T ob hm okz
  have bm : Dp ps d (endP (1 - e) s) m = l + k1 := by omega
  have l0 : 0 ≤ l := by rw [← bh]; exact Dp_nn T ob oh
  have bz : Dp ps d (endP (1 - e) s) z = Dp ps d (endP (1 - e) s) m + Dp ps d m z := by omega
  obtain ⟨y1, oy1, f1, f2⟩ := step_there T ob hm _ (st := k1) (by omega) (by omega) rfl
  have a1 : At n ps d (endP (1 - e) s) m y1 k1 := ⟨oy1, f1, f2⟩
  have a1z := a1.ext T ob hm okz bz
  have g2 := a1z.2.2
  have c1 := (f2 : Dp ps d y1 m = _)
  obtain ⟨y2, oy2, f3, f4⟩ := step_there T oy1 okz _ (st := k - k1) (by omega) (by omega) rfl
  have a2 : At n ps d y1 z y2 (k - k1) := ⟨oy2, f3, f4⟩
  have a2z := At.shift T ob oy1 okz a1z a2
  rw [Int.sub_add_cancel] at a2z
  have ey := hy.same T ob okz a2z
  subst ey
  obtain ⟨w1, w2⟩ := withE_ends (n := n) (ps := ps) (d := d) T he m y1
  refine ⟨withE e m y1, ⟨he, hm, ⟨by omega, by omega⟩, fun x hx => ?_, e1.symm, y1, a1, rfl⟩, ⟨he, okz, ⟨by rw [w1]; omega, by rw [w1, w2]; omega⟩, fun x hx => ?_, by rw [w1]; omega, y, by rw [w2]; exact a2, rfl⟩⟩
  · obtain ⟨hx, x0, x1⟩ := hx
    refine nb x ⟨?_, x0, by omega⟩
    rcases hx with ⟨y', i, a, ⟨i0, i1, a0, a1', h⟩, rfl⟩ | ⟨y', w, num, ah', sz, ⟨i, a, i0, i1, m', hat⟩, gk, lt, rfl⟩
    · exact .inl ⟨y', i, a, ⟨i0, i1, a0, a1', h.imp (fun ⟨m', u, v⟩ => ⟨m', u.ext T ob hm okz bz, v.ext T ob hm okz bz⟩) (fun ⟨m', u, v⟩ => ⟨m', u.ext T ob hm okz bz, v.ext T ob hm okz bz⟩)⟩, rfl⟩
    · exact .inr ⟨y', w, num, ah', sz, ⟨i, a, i0, i1, m', hat.ext T ob hm okz bz⟩, gk, lt, rfl⟩
  · obtain ⟨hx, x0, x1⟩ := hx
    rw [w1] at x1
    rw [w2] at hx
    rcases hx with ⟨y', i, a, ⟨i0, i1, a0, a1', h⟩, rfl⟩ | ⟨y', w, num, ah', sz, ⟨i, a, i0, i1, m', hat⟩, gk, lt, rfl⟩
    · have sh : ∀ {u : Pl} {t : Int}, At n ps d y1 z u t → At n ps d (endP (1 - e) s) z u (t + k1) := fun hu => At.shift T ob oy1 okz a1z hu
      have x1' : max 0 (y' - l) < Dp ps d m z := x1
      refine nb [max 0 (y' + k1 - l), 0, i, a] ⟨.inl ⟨y' + k1, i, a, ⟨i0, i1, a0, a1', h.imp (fun ⟨m', u, v⟩ => ⟨m', sh u, by have := sh v; rw [show y' + k1 + 1 = y' + 1 + k1 by omega]; exact this⟩) (fun ⟨m', u, v⟩ => ⟨m', sh u, by have := sh v; rw [show y' + k1 + 1 = y' + 1 + k1 by omega]; exact this⟩)⟩, rfl⟩, ?_, ?_⟩
      · show 0 ≤ max 0 (y' + k1 - l); omega
      · show max 0 (y' + k1 - l) < _; omega
    · have x0' : 0 ≤ y' - 1 - ah' := x0
      have x1' : y' - 1 - ah' < Dp ps d m z := x1
      refine nb [y' + k1 - 1 - ah', 1, (num : Int)] ⟨.inr ⟨y' + k1, w, num, ah', sz, ⟨i, a, i0, i1, m', At.shift T ob oy1 okz a1z hat⟩, gk, lt, rfl⟩, ?_, ?_⟩
      · show 0 ≤ y' + k1 - 1 - ah'; omega
      · show y' + k1 - 1 - ah' < _; omega
theorem Legs.app {l : Int} {ks : List (Int × Int)} {s s1 s2 : Pl × Pl} {t : Int} {r : List (PyData × PyData)} (h : Legs n ps d l ks s r (some (s1, t))) {e k : Int} {z : Pl} (g : LegS n ps d l ks s1 e z s2 k) : Legs n ps d l ks s (r ++ [(.int e, tupI z)]) (some (s2, t + k)) := by
  generalize hr : some (s1, t) = o at h
  induction h generalizing t with
  | nil s =>
    cases hr
    have := Legs.yes g (Legs.nil s2)
    rw [Int.add_zero] at this
    rw [Int.zero_add]
    exact this
  | yes h1 h2 ih =>
    cases hr
    have := Legs.yes h1 (ih rfl)
    rw [Int.add_assoc]
    exact this
  | off _ _ _ => cases hr
  | no _ => cases hr
end
theorem Legs.nf {n : Int} {ps : List Pi} {d : Int → Int → Int} {l : Int} {ks : List (Int × Int)} {s : Pl × Pl} {lg : List (PyData × PyData)} {r : (Pl × Pl) × Int} (h : Legs n ps d l ks s lg (some r)) : ∀ x ∈ lg, isF x.2 = false := by
  generalize hr : some r = o at h
  induction h generalizing r with
  | nil s => exact fun x m => absurd m List.not_mem_nil
  | yes h1 h2 ih =>
    intro x m
    rcases List.mem_cons.mp m with rfl | m
    · rfl
    · exact ih rfl x m
  | off _ _ _ => cases hr
  | no _ => cases hr
theorem Dq.offT {H : Hp} {D C : Addr} {b : Int} (h : Dq H D C b) {v : V} {z : List Int} (x : Dt [] H v (tupI z)) : Dt [D] H v (tupI z) := by
  obtain ⟨a, rfl, _, ea⟩ := tupI_at x
  refine .tup (fun m => ?_) ea (Dts.ints z)
  cases List.mem_singleton.mp m
  obtain ⟨⟨cs, j, r, t, e1, _⟩, _⟩ := h
  rw [e1] at ea
  cases ea
theorem lgD_map (lg : List (PyData × PyData)) (e : Int) (z : Pl) : (lg ++ [(PyData.int e, tupI z)]).map lgD = lg.map lgD ++ [PyData.tuple [.int e, tupI z]] := by rw [List.map_append]; rfl
theorem okH.hk {n : Int} {ps : List Pi} (ok : okH n ps) : HouseOk n ps := ⟨ok.n1, ok.n16, by have := ok.len; omega, ok.ok⟩
theorem okH.tree {n : Int} {ps : List Pi} (ok : okH n ps) : ∃ d, Tm n ps d :=
  Rw.tree ok.n1 (by have := ok.len; omega) (fun p m => by have z := ok.ok p m; exact ⟨z.x0, by have := z.x1; omega, z.y0, by have := z.y1; omega, z.fit.l1⟩) ok.con
theorem of_set {i : Nat} {v : V} {f : L2.St → Hp → Prop} {r : VK} {b c : L2.St → Hp → Prop} {σ : L2.St} {H : Hp} (h : f (σ.set i (some v)) H) : gName i v σ H ({ nx := f, rt := r, bk := b, ct := c } : Ends).nx := h
theorem seq_set {te : TE} {i : Nat} {u : TS} {D : Ends} {σ : L2.St} {H : Hp} (R : V → Hp → Prop) (second : ∀ v M, R v M → u D (σ.set i (some v)) M) (first : (∀ v M, R v M → u D (σ.set i (some v)) M) → tAsg te (gName i) { D with nx := u D } σ H) : tSeq (tAsg te (gName i)) u D σ H := first second
/-! ### legs taken back, where no flap lies -/
def Lies (n : Int) (ps : List Pi) (d : Int → Int → Int) (ks : List (Int × Int)) (s : Pl × Pl) : Prop := ∀ k ∈ ks, ∀ w, BarN n ps d s.2 s.1 k.1 w → k.2 ≤ w
def ahe (l e b : Int) : Int := if e = 1 then l - b else b
theorem kfb_get {l e : Int} {ks : List (Int × Int)} {num : Nat} {ah sz : Int} (h : (kfb l e ks)[num]? = some (ah, sz)) : ∃ b, ks[num]? = some (b, sz) ∧ ah = ahe l e b := by
  unfold kfb at h
  unfold ahe
  split at h
  · rename_i c
    rw [List.getElem?_map] at h
    obtain ⟨k, g, e'⟩ := Option.map_eq_some_iff.mp h
    cases e'
    exact ⟨k.1, g, by rw [if_pos c]⟩
  · rename_i c
    exact ⟨ah, h, by rw [if_neg c]⟩
theorem kfb_put {l e : Int} {ks : List (Int × Int)} {num : Nat} {b sz : Int} (h : ks[num]? = some (b, sz)) : (kfb l e ks)[num]? = some (ahe l e b, sz) := by
  unfold kfb ahe
  split
  · rw [List.getElem?_map, h]; rfl
  · exact h
theorem ahe_sum {l e b : Int} (he : e = 0 ∨ e = 1) : ahe l (1 - e) b = l - ahe l e b := by
  unfold ahe
  rcases he with rfl | rfl
  · rw [if_pos (by decide), if_neg (by decide)]
  · rw [if_neg (by decide), if_pos (by decide)]; omega
section
variable {n : Int} {ps : List Pi} {d : Int → Int → Int} (T : Tm n ps d)
include T
theorem At.cut {b h z u : Pl} {y : Int} (hb : okP n ps b) (hh : okP n ps h) (hz : okP n ps z) (e : Dp ps d b z = Dp ps d b h + Dp ps d h z) (a : At n ps d b z u y) (y0 : 0 ≤ y) (y1 : y ≤ Dp ps d b h) : At n ps d b h u y := by
  obtain ⟨v, ov, f1, f2⟩ := step_there T hb hh _ (st := y) y0 y1 rfl
  have a' : At n ps d b h v y := ⟨ov, f1, f2⟩
  rw [a.same T hb hz (a'.ext T hb hh hz e)]
  exact a'
theorem BarN.turn {p q : Pl} {y w : Int} (hp : okP n ps p) (hq : okP n ps q) (h : BarN n ps d p q y w) : BarN n ps d q p (Dp ps d p q - y) w := by
  obtain ⟨i, a, i0, i1, m, hat⟩ := h
  exact ⟨i, a, i0, i1, m, hat.turn T hp hq⟩
theorem lies_iff {l : Int} {ks : List (Int × Int)} {s : Pl × Pl} {e : Int} (o : OkS n ps d l s) (he : e = 0 ∨ e = 1) : Lies n ps d ks s ↔ ∀ k ∈ ks, ∀ w, BarN n ps d (endP (1 - e) s) (endP e s) (ahe l e k.1) w → k.2 ≤ w := by
  obtain ⟨o1, o2, o3⟩ := o
  have sy := Dp_sym T o1 o2
  rcases he with rfl | rfl
  · exact Iff.rfl
  · show Lies n ps d ks s ↔ ∀ k ∈ ks, ∀ w, BarN n ps d s.1 s.2 (l - k.1) w → k.2 ≤ w
    constructor
    · intro h k m w hb
      have := hb.turn T o1 o2
      rw [o3, show l - (l - k.1) = k.1 by omega] at this
      exact h k m w this
    · intro h k m w hb
      have := hb.turn T o2 o1
      rw [← sy, o3] at this
      exact h k m w this
theorem LegS.back {l : Int} {ks : List (Int × Int)} {s s' : Pl × Pl} {e k : Int} {z : Pl} (hf : ∀ i : Int, 0 ≤ i → i < ps.length → (pr ps i).fl = []) (okr : okR l ks) (o : OkS n ps d l s) (li : Lies n ps d ks s) (h : LegS n ps d l ks s e z s' k) : LegS n ps d l ks s' (1 - e) (endP (1 - e) s) s k ∧ Lies n ps d ks s' := by
  have o' := h.okS T o
  obtain ⟨he, okz, ah, nb, hk, y, hy, rfl⟩ := h
  obtain ⟨oh, ob, bh⟩ := o.ends T he
  have he' : 1 - e = 0 ∨ 1 - e = 1 := by omega
  have ee : 1 - (1 - e) = e := by omega
  obtain ⟨w1, w2⟩ := withE_ends (n := n) (ps := ps) (d := d) T he z y
  have ah1 := ah.1
  have ah2 := ah.2
  have oy := hy.1
  have syb := Dp_sym T ob oy
  have syz := Dp_sym T ob okz
  have syh := Dp_sym T oh okz
  have sbh := Dp_sym T oh ob
  have hy1 := hy.2.1
  have hy2 := hy.2.2
  have bz : Dp ps d (endP (1 - e) s) z = Dp ps d (endP (1 - e) s) (endP e s) + Dp ps d (endP e s) z := by omega
  have kpos : 1 ≤ k := by
    have := Dp_nn T oh okz
    omega
  have kin : ∀ {num : Nat} {b sz : Int}, ks[num]? = some (b, sz) → 0 ≤ b ∧ b ≤ l := fun {num b sz} g => rising_in okr.2.2.1 _ (List.mem_of_getElem? g)
  have ain : ∀ {b : Int}, 0 ≤ b ∧ b ≤ l → 0 ≤ ahe l e b ∧ ahe l e b ≤ l := fun {b} hb => by
    unfold ahe
    split <;> omega
  have lie := (lies_iff T o he).mp li
  -- no narrow place below a knot where it goes
  have free : ∀ {num : Nat} {b sz Y w : Int}, ks[num]? = some (b, sz) → BarN n ps d (endP (1 - e) s) z Y w → ahe l e b ≤ Y → Y ≤ ahe l e b + k → ¬ w < sz := fun {num b sz Y w} g hb y0 y1 lt => by
    have a0 := ain (kin g)
    by_cases c : Y = ahe l e b
    · obtain ⟨i, a, i0, i1, m, hat⟩ := hb
      have hat' := hat.cut T ob oh okz bz (by omega) (by omega)
      rw [c] at hat'
      have := lie _ (List.mem_of_getElem? g) w ⟨i, a, i0, i1, m, hat'⟩
      simp only at this
      omega
    · refine nb [Y - 1 - ahe l e b, 1, (num : Int)] ⟨.inr ⟨Y, w, num, ahe l e b, sz, hb, kfb_put g, lt, rfl⟩, ?_, ?_⟩
      · show 0 ≤ Y - 1 - ahe l e b; omega
      · show Y - 1 - ahe l e b < _; omega
  refine ⟨⟨he', ob, ⟨by rw [w2]; omega, by rw [ee, w1, w2]; omega⟩, fun x hx => ?_, by rw [w2]; omega, endP e s, ⟨oh, ?_, ?_⟩, ?_⟩, (lies_iff T o' he).mpr (fun kn m w hb => ?_)⟩
  · obtain ⟨hx, x0, x1⟩ := hx
    rw [w2] at x1
    rw [ee, w1] at hx
    rcases hx with ⟨y', i, a, ⟨i0, i1, a0, a1', hfl⟩, rfl⟩ | ⟨y', w, num, ah', sz, hb, gk, lt, rfl⟩
    · rw [hf i i0 i1] at hfl
      rcases hfl with ⟨m, _⟩ | ⟨m, _⟩ <;> cases m
    · obtain ⟨b, g, rfl⟩ := kfb_get gk
      have x0' : 0 ≤ y' - 1 - ahe l (1 - e) b := x0
      have x1' : y' - 1 - ahe l (1 - e) b < Dp ps d y (endP (1 - e) s) := x1
      rw [ahe_sum he] at x0' x1'
      have hb' := hb.turn T okz ob
      exact free g hb' (by omega) (by omega) lt
  · rw [ee, w1]; omega
  · rw [ee, w1]; omega
  · rcases he with rfl | rfl <;> rfl
  · rw [w1, w2] at hb
    obtain ⟨num, hnum⟩ := List.getElem?_of_mem m
    have g : ks[num]? = some (kn.1, kn.2) := hnum
    obtain ⟨i, a, i0, i1, mm, hat⟩ := hb
    have hat' : At n ps d (endP (1 - e) s) z [i, a] (ahe l e kn.1 + k) := At.shift T ob oy okz hy hat
    have a0 := ain (kin g)
    have := free g ⟨i, a, i0, i1, mm, hat'⟩ (by omega) (by omega)
    omega
end
end Rw

namespace Rw
open PySem PySem.Spec PyProof.Rows L2
theorem lt_cons (x y : Int) (a b : List Int) : PySem.W.listLt (x :: a) (y :: b) = if x = y then PySem.W.listLt a b else decide (x < y) := rfl
/-! what stands behind an if, whatever the slots hold -/
theorem seq_ifS {c : TT} {t u : TS} {D : Ends} {σ : L2.St} {H : Hp} (R : L2.St → Hp → Prop) (second : ∀ σ2 M, R σ2 M → u D σ2 M) (first : (∀ σ2 M, R σ2 M → u D σ2 M) → tIfS c t tNext { D with nx := u D } σ H) : tSeq (tIfS c t tNext) u D σ H := first second
theorem seq_st {a u : TS} {D : Ends} {σ σ' : L2.St} {H : Hp} (e : σ = σ') (h : tSeq a u D σ' H) : tSeq a u D σ H := e ▸ h
theorem if_yes {c : TT} {t u : TS} {D : Ends} {σ σ' : L2.St} {H : Hp} (e : σ = σ') (R : Hp → Prop) (yes : ∀ M, R M → t D σ' M) (first : (∀ M, R M → t D σ' M) → tIfS c t u D σ' H) : tIfS c t u D σ H := e ▸ first yes
theorem nil_go {σ : L2.St} {H : Hp} {Q : List V → Hp → Prop} (h : Q [] H) : tNil σ H Q := h
end Rw

namespace Rw
open PySem PySem.Spec PyProof.Rows L2
open PySem PySem.Spec PyProof.Rows L2
/-! ### a run, by the pieces along which it goes -/
def cutP (c : List Int) (k : Int) : List Int := [c.getD 0 0, c.getD 1 0, pat c k]
def mostR (lead trail : List Int) (s : Pl × Pl) (e : Int) : Int :=
  if 0 < stepsTo lead (endP e s) ∧ stepsTo lead (endP e s) = stepsTo trail (endP (1 - e) s) then min (min (plen lead) (plen trail)) (stepsTo lead (endP e s)) else min (plen lead) (plen trail)
def RunR (ps : List Pi) (l : Int) (ks : List (Int × Int)) (e : Int) (pcs : List (List Int)) (lead : List Int) (s : Pl × Pl) (k : Int) : Prop :=
  k ≤ mostR lead (pcs.headD []) s e ∧ (∀ x, BarL ps l e ks pcs (mostR lead (pcs.headD []) s e) x → k ≤ x.headD 0) ∧ (k = mostR lead (pcs.headD []) s e ∨ ∃ x, BarL ps l e ks pcs (mostR lead (pcs.headD []) s e) x ∧ x.headD 0 = k)
structure Run where
  e : Int
  s : Pl × Pl
  k : Int
  led : List Int
  drg : List Int
def runA (ps : List Pi) (e : Int) (pcs : List (List Int)) (lead : List Int) (k : Int) : Run :=
  ⟨e, withE e (nm ps (lead.getD 0 0) (pat lead k)) (nm ps ((pcs.headD []).getD 0 0) (pat (pcs.headD []) k)), k, cutP lead k, cutP (pcs.headD []) k⟩
def runD (r : Run) : PyData := .tuple [.int r.e, stD r.s, .int r.k, tupI r.led, tupI r.drg]
theorem min_if (i j : Int) : (if j < i then j else i) = min i j := by rw [Int.min_def]; split <;> split <;> omega
theorem stD_two {H : Hp} {v : V} {s : Pl × Pl} (h : Dt [] H v (stD s)) {e : Int} (he : e = 0 ∨ e = 1) : ∃ (a : Addr) (vs : List V) (v1 v2 : V), v = .ref a ∧ H a = some (.tup vs) ∧ atI vs e = some v1 ∧ atI vs (1 - e) = some v2 ∧ Dt [] H v1 (tupI (endP e s)) ∧ Dt [] H v2 (tupI (endP (1 - e) s)) := by
  obtain ⟨ta, x1, x2, rfl, _, es, d1, d2⟩ := stD_at h
  rcases he with rfl | rfl
  · exact ⟨ta, [x1, x2], x1, x2, rfl, es, rfl, rfl, d1, d2⟩
  · exact ⟨ta, [x1, x2], x2, x1, rfl, es, rfl, rfl, d2, d1⟩
theorem led_ne (r : List (List Int)) (c x : List Int) : ∃ y ys, ledOn r c x = y :: ys := by
  unfold ledOn
  split <;> cases r <;> exact ⟨_, _, rfl⟩
theorem led_few {r : List (List Int)} {c x : List Int} : (ledOn r c x).length ≤ r.length + 2 := by
  unfold ledOn
  split <;> simp
section
variable {P : Program} {w : World} {K : PySem.W.Frag} {mg : Str → Option Value} {base : Heap}
abbrev sRAl : Stmt := topS 61
abbrev nRAl : List Str := ["plan", "rope", "end", "row", "lead", "wish", "pieces", "trail", "most", "met", "bar", "steps", "led", "dragged"]
theorem scRAl : FnScope nRAl ["plan", "rope", "end", "row", "lead", "wish"] (defScope sRAl) := ⟨rfl, rfl, rfl, by decide +kernel, rfl, by decide +kernel, by decide +kernel⟩
def spRAl (C : Addr) : Sp := fun vs H Q _ => ∃ (a Lp t : Addr) (v wv : V) (n l e i b f : Int) (ps : List Pi) (d : Int → Int → Int) (ks : List (Int × Int)) (us : List V) (r : List (List Int)) (c : List Int) (s : Pl × Pl), vs = [.ref a, v, .int e, .ref Lp, .ref t, wv] ∧ PlanAt C [] H a n ps d ∧ HouseOk n ps ∧ Dt [] H v (ropeD l ks) ∧ ks.length ≤ 4 ∧ (e = 0 ∨ e = 1) ∧ H Lp = some (.lst us) ∧ Dts [] H us ((r ++ [c]).map tupI) ∧ (∃ i b e, c = [i, b, e]) ∧ r.length ≤ 90 ∧ H t = some (.tup [.int i, .int b, .int f]) ∧ (∀ x ∈ ledOn r c [i, b, f], PcOk ps x) ∧ 0 ≤ i ∧ i < ps.length ∧ Dt [] H wv (stD s) ∧ okP n ps s.1 ∧ okP n ps s.2 ∧
  ∀ (H' : Hp) (T : Addr) (k : Int), Keep [] H H' → RunR ps l ks e (ledOn r c [i, b, f]) [i, b, f] s k → Dt [] H' (.ref T) (runD (runA ps e (ledOn r c [i, b, f]) [i, b, f] k)) → Q (.ref T) H'
theorem ok_rAl (h : Has K mg "run_along" sRAl) {C : Addr} (B : Blt mg) (X : PlanTxt K C) (CLO : Can P w K mg base "led_on" ["row", "lead"] 1 spLOn) (CL : Can P w K mg base "length_of" ["piece"] 1 spLen) (CS : Can P w K mg base "steps_to" ["piece", "place"] 1 spSTo) (CB : Can P w K mg base "bars_of" ["plan", "rope", "end", "pieces", "steps"] 2 (spBOf C)) (CC : Can P w K mg base "cut_to" ["piece", "steps"] 2 spCTo) (CSW : Can P w K mg base "stand_with" ["end", "place", "dragged"] 1 spSWt) (CLP : Can P w K mg base "last_place" ["plan", "piece"] 2 (spLPl C)) : Can P w K mg base "run_along" ["plan", "rope", "end", "row", "lead", "wish"] 3 (spRAl C) := by
  obtain ⟨f, fd, F, g⟩ := h
  refine ⟨f, fd, F.ok (k := 2) scRAl (fun vs H Q E h => ?_) (fun cdv A outer s H vs Q E hr h => ?_), g, F.kp, F.binds fun _ _ _ _ _ _ us hl => match us, hl with | [_, _, _, _, _, _], _ => rfl⟩
  · obtain ⟨a, Lp, t, v, wv, n, l, e, i, b, f, ps, d, ks, us, r, c, s, rfl, _⟩ := h
    rfl
  · obtain ⟨a, Lp, t, v, wv, n, l, e, i, b, f, ps, d, ks, us, r, c, s, rfl, pl, hk, dr, k4, he, eLp, du, fc, r90, et, okc, i0, i1, dw, ow1, ow2, q⟩ := h
    refine ⟨_, pss_cons (ps_set (i := 6) scRAl.nd rfl (by first | exact Or.inl rfl | exact Or.inr rfl) (pe_can CLO (hr.mono (by decide)) (by rfl) (pa_cons (pv 3) (pa_cons (pv 4) pa_nil))))
      (pss_cons (ps_set (i := 7) scRAl.nd rfl (by first | exact Or.inl rfl | exact Or.inr rfl) (pe_ix ix_list (pv 6) pe_int (fun _ _ => rfl)))
      (pss_cons (ps_set (i := 8) scRAl.nd rfl (by first | exact Or.inl rfl | exact Or.inr rfl) (pe_callB (call_min2 rfl) (by rfl) B.min_ boot_min (pa_cons (pe_can CL (hr.mono (by decide)) (by rfl) (pa_cons (pv 4) pa_nil)) (pa_cons (pe_can CL (hr.mono (by decide)) (by rfl) (pa_cons (pv 7) pa_nil)) pa_nil))))
      (pss_cons (ps_set (i := 9) scRAl.nd rfl (by first | exact Or.inl rfl | exact Or.inr rfl) (pe_can CS (hr.mono (by decide)) (by rfl) (pa_cons (pv 4) (pa_cons (pe_ix ix_tup (pv 5) (pv 2) (fun _ _ => rfl)) pa_nil))))
      (pss_cons (ps_if (PW.pt (pw_and (pt_cmpR op_gt (pv 9) pe_int (nomark _)) (pw_and1 (pt_cmpR op_eq (pv 9) (pe_can CS (hr.mono (by decide)) (by rfl) (pa_cons (pv 7) (pa_cons (pe_ix ix_tup (pv 5) (pe_op op_sub pe_int (pv 2)) (fun _ _ => rfl)) pa_nil))) (nomark _))))) (pss_one (ps_set (i := 8) scRAl.nd rfl (by first | exact Or.inl rfl | exact Or.inr rfl) (pe_callB (call_min2 rfl) (by rfl) B.min_ boot_min (pa_cons (pv 8) (pa_cons (pv 9) pa_nil))))) pss_nil)
      (pss_cons (ps_set (i := 11) scRAl.nd rfl (by first | exact Or.inl rfl | exact Or.inr rfl) (pe_callB (cr_min rfl) (by rfl) B.min_ boot_min (pa_cons (pe_op op_cat (pe_lst (pa_cons (pv 8) pa_nil)) (pe_lc (own := [("bar", 10)]) (g := gName 10) (tt := tYes) rfl scRAl.nd (pi_list (pe_can CB (hr.mono (by decide)) (by rfl) (pa_cons (pv 0) (pa_cons (pv 1) (pa_cons (pv 2) (pa_cons (pv 6) (pa_cons (pv 8) pa_nil))))))) (blkOk_by (N := nRAl) (sc := defScope sRAl) (by decide +kernel)) (fun _ _ _ _ _ => (pg_name (i := 10) scRAl.nd rfl (by first | exact Or.inl rfl | exact Or.inr rfl))) (fun _ _ _ _ _ => pts_nil) (fun _ _ _ _ _ => (pe_ix (ix_tupK (K := K) rfl) (pv 10) pe_int (fun _ _ => rfl))))) pa_nil)))
      (pss_cons (ps_set (i := 12) scRAl.nd rfl (by first | exact Or.inl rfl | exact Or.inr rfl) (pe_can CC (hr.mono (by decide)) (by rfl) (pa_cons (pv 4) (pa_cons (pv 11) pa_nil))))
      (pss_cons (ps_set (i := 13) scRAl.nd rfl (by first | exact Or.inl rfl | exact Or.inr rfl) (pe_can CC (hr.mono (by decide)) (by rfl) (pa_cons (pv 7) (pa_cons (pv 11) pa_nil))))
      (pss_one (ps_ret (pe_tup (pa_cons (pv 2) (pa_cons (pe_can CSW (hr.mono (by decide)) (by rfl) (pa_cons (pv 2) (pa_cons (pe_can CLP (hr.mono (by decide)) (by rfl) (pa_cons (pv 0) (pa_cons (pv 12) pa_nil))) (pa_cons (pe_can CLP (hr.mono (by decide)) (by rfl) (pa_cons (pv 0) (pa_cons (pv 13) pa_nil))) pa_nil)))) (pa_cons (pv 11) (pa_cons (pv 12) (pa_cons (pv 13) pa_nil))))))))))))))), ?_⟩
    have okh : 0 ≤ 1 := by decide
    obtain ⟨wa, wvs, w1, w2, rfl, ewa, ga1, ga2, dw1, dw2⟩ := stD_two dw he
    have oe1 : okP n ps (endP e s) := by rcases he with rfl | rfl <;> assumption
    have oe2 : okP n ps (endP (1 - e) s) := by rcases he with rfl | rfl <;> assumption
    refine ⟨.ref Lp, rfl, .ref t, rfl, Lp, t, i, b, f, us, r, c, rfl, et, eLp, du, fc, r90, fun H1 L1 us1 k1 nL1 eL1 du1 => ?_⟩
    obtain ⟨y, ys, el⟩ := led_ne r c [i, b, f]
    have lf := led_few (r := r) (c := c) (x := [i, b, f])
    generalize ledOn r c [i, b, f] = pcs at *
    subst el
    obtain ⟨j, tb, tf, rfl, j0, j1, tb0, tb1, tf0, tf1⟩ := okc y List.mem_cons_self
    obtain ⟨u, us1, rfl⟩ : ∃ u us1', us1 = u :: us1' := by cases du1; exact ⟨_, _, rfl⟩
    have du0 : Dt [] H1 u (tupI [j, tb, tf]) := by cases du1; assumption
    obtain ⟨tr, rfl, _, etr⟩ := tupI_at du0
    have et1 := k1 _ _ et List.not_mem_nil
    refine ⟨.ref L1, rfl, L1, _, 0, .ref tr, rfl, rfl, SqL.of eL1, atI_nat (j := 0) rfl, ?_⟩
    refine ⟨.ref t, rfl, t, i, b, f, rfl, et1, .ref tr, rfl, tr, j, tb, tf, rfl, etr, _, _, rfl, ?_⟩
    have ewa1 := k1 _ _ ewa List.not_mem_nil
    refine ⟨.ref t, rfl, .ref wa, rfl, .int e, rfl, wa, wvs, e, w1, rfl, rfl, SqT.of ewa1, ga1, t, w1, i, b, f, endP e s, rfl, et1, dw1.keep k1, okP_F oe1, ?_⟩
    refine of_set ?_
    have e89 : ∀ m, m = mostR [i, b, f] [j, tb, tf] s e → [some (V.ref a), some v, some (.int e), some (.ref Lp), some (.ref t), some (.ref wa), some (.ref L1), some (.ref tr), some (.int m), some (.int (stepsTo [i, b, f] (endP e s))), none, none, none, none] = [some (V.ref a), some v, some (.int e), some (.ref Lp), some (.ref t), some (.ref wa), some (.ref L1), some (.ref tr), some (.int (mostR [i, b, f] [j, tb, tf] s e)), some (.int (stepsTo [i, b, f] (endP e s))), none, none, none, none] := fun m h => by rw [h]
    refine seq_ifS (fun σ2 M => M = H1 ∧ σ2 = [some (.ref a), some v, some (.int e), some (.ref Lp), some (.ref t), some (.ref wa), some (.ref L1), some (.ref tr), some (.int (mostR [i, b, f] [j, tb, tf] s e)), some (.int (stepsTo [i, b, f] (endP e s))), none, none, none, none]) (fun σ2 M hM => ?_) (fun second => ?_)
    rotate_left
    · have em : mostR [i, b, f] [j, tb, tf] s e = if 0 < stepsTo [i, b, f] (endP e s) ∧ stepsTo [i, b, f] (endP e s) = stepsTo [j, tb, tf] (endP (1 - e) s) then min (min (plen [i, b, f]) (plen [j, tb, tf])) (stepsTo [i, b, f] (endP e s)) else min (plen [i, b, f]) (plen [j, tb, tf]) := rfl
      refine ⟨.int _, rfl, _, 0, rfl, rfl, _, rfl, ite2 (fun c => ?_) (fun c => ?_)⟩
      · have c1 : 0 < stepsTo [i, b, f] (endP e s) := of_decide_eq_true c
        refine ⟨.int _, rfl, .ref tr, rfl, .ref wa, rfl, .int e, rfl, 1, e, rfl, rfl, wa, wvs, 1 - e, w2, rfl, rfl, SqT.of ewa1, ga2, tr, w2, j, tb, tf, endP (1 - e) s, rfl, etr, dw2.keep k1, okP_F oe2, rfl, _, rfl, ite2 (fun c => ?_) (fun c => ?_)⟩
        · have c2 := V.int.inj (of_decide_eq_true c)
          have hp : 0 < stepsTo [i, b, f] (endP e s) ∧ stepsTo [i, b, f] (endP e s) = stepsTo [j, tb, tf] (endP (1 - e) s) := ⟨c1, c2⟩
          refine ⟨.int (if plen [j, tb, tf] < plen [i, b, f] then plen [j, tb, tf] else plen [i, b, f]), rfl, .int (stepsTo [i, b, f] (endP e s)), rfl, _, _, rfl, ?_⟩
          refine second _ _ ⟨rfl, e89 (if stepsTo [i, b, f] (endP e s) < (if plen [j, tb, tf] < plen [i, b, f] then plen [j, tb, tf] else plen [i, b, f]) then stepsTo [i, b, f] (endP e s) else (if plen [j, tb, tf] < plen [i, b, f] then plen [j, tb, tf] else plen [i, b, f])) ?_⟩
          rw [em, if_pos hp, min_if, min_if]
        · refine second _ _ ⟨rfl, e89 (if plen [j, tb, tf] < plen [i, b, f] then plen [j, tb, tf] else plen [i, b, f]) ?_⟩
          have hn : ¬ (0 < stepsTo [i, b, f] (endP e s) ∧ stepsTo [i, b, f] (endP e s) = stepsTo [j, tb, tf] (endP (1 - e) s)) := fun h => c (decide_eq_true (by rw [h.2]))
          rw [em, if_neg hn, min_if]
      · refine iteF (second _ _ ⟨rfl, e89 (if plen [j, tb, tf] < plen [i, b, f] then plen [j, tb, tf] else plen [i, b, f]) ?_⟩)
        have hn : ¬ (0 < stepsTo [i, b, f] (endP e s) ∧ stepsTo [i, b, f] (endP e s) = stepsTo [j, tb, tf] (endP (1 - e) s)) := fun h => c (decide_eq_true h.1)
        rw [em, if_neg hn, min_if]
    · obtain ⟨rfl, rfl⟩ := hM
      clear e89
      generalize hm : mostR [i, b, f] [j, tb, tf] s e = m
      refine ⟨.int m, rfl, show 1 ≤ sizeLine by decide, fun M1 nM1 => ?_⟩
      have k2 : Keep [] M (upd M M1 (.lst [.int m])) := Keep.new nM1
      have eM1 : (upd M M1 (.lst [.int m])) M1 = some (.lst [.int m]) := upd_same
      generalize upd M M1 (.lst [.int m]) = H2 at k2 eM1 ⊢
      have k12 := k1.trans k2
      refine ⟨.ref a, rfl, v, rfl, .int e, rfl, .ref L1, rfl, .int m, rfl, a, L1, v, n, l, e, m, ps, d, ks, .ref tr :: us1, [j, tb, tf] :: ys, rfl, pl.keep k12, hk, dr.keep k12, k4, k2 _ _ eL1 List.not_mem_nil, du1.keep k2, by omega, okc, fun H3 B1 bus bs k3 nB1 eB1 dbs lbs hbs => ?_⟩
      refine ⟨B1, rfl, ⟨_, SqL.of eB1⟩, fun W nW => ?_⟩
      refine lc_list (K := K) (a := B1) (xs := bus) (fun t J => Keep [] H3 J ∧ J W = some (.lst (((bs.take t).map fun x => x.headD 0).map V.int)))
        ⟨Keep.new nW, upd_same⟩ (fun t J _ p => SqL.of (p.1 _ _ eB1 List.not_mem_nil)) (fun t y J hy p => ?_) (fun J p => ?_)
      · obtain ⟨kJ, eW⟩ := p
        obtain ⟨dd, gd, dy⟩ := (dbs.keep kJ).getv t hy
        rw [List.getElem?_map] at gd
        obtain ⟨x, gx, rfl⟩ := Option.map_eq_some_iff.mp gd
        obtain ⟨⟨_, _, _, hpb⟩, _⟩ := (hbs x).mp (List.mem_of_getElem? gx)
        obtain ⟨x0, xr, rfl⟩ := PB_ne hpb
        obtain ⟨ta, rfl, _, eta⟩ := tupI_at dy
        have ht := (List.getElem?_eq_some_iff.mp gx).1
        refine ⟨rfl, .ref ta, rfl, ta, _, 0, .int x0, rfl, rfl, SqT.of eta, atI_nat (j := 0) rfl, _, eW, ?_, kJ.upd nW, ?_⟩
        · rw [List.length_map, List.length_map, List.length_take]
          exact Nat.lt_of_le_of_lt (show min t bs.length ≤ 3000 by omega) (by decide)
        · rw [upd_same, List.take_add_one, gx]
          simp only [List.map_append, Option.toList, List.map_cons, List.map_nil, List.headD]
      · obtain ⟨kJ, eW⟩ := p
        have lbu : bus.length = bs.length := by rw [dbs.len, List.length_map]
        rw [lbu, List.take_length] at eW
        have k13 := k12.trans (k3.trans kJ)
        have eM1J := kJ _ _ (k3 _ _ eM1 List.not_mem_nil) List.not_mem_nil
        refine ⟨M1, W, _, _, rfl, rfl, eM1J, eW, ?_, fun p np => ?_⟩
        · rw [List.length_map, List.length_map]
          exact Nat.le_trans (show 1 + bs.length ≤ 3001 by omega) (by decide)
        have kp : Keep [] J (upd J p (.lst ([V.int m] ++ (bs.map fun x => x.headD 0).map V.int))) := Keep.new np
        have ep : (upd J p (.lst ([V.int m] ++ (bs.map fun x => x.headD 0).map V.int))) p = some (.lst ((m :: bs.map fun x => x.headD 0).map V.int)) := upd_same
        generalize upd J p (.lst ([V.int m] ++ (bs.map fun x => x.headD 0).map V.int)) = H4 at kp ep ⊢
        have k14 := k13.trans kp
        refine ⟨p, m :: bs.map fun x => x.headD 0, rfl, SqL.of ep, Nat.succ_pos _, fun k mk hk => ?_⟩
        have rk : RunR ps l ks e ([j, tb, tf] :: ys) [i, b, f] s k := by
          have e0 : mostR [i, b, f] (([j, tb, tf] :: ys).headD []) s e = m := hm
          unfold RunR
          rw [e0]
          refine ⟨hk m List.mem_cons_self, fun x hx => hk _ (List.mem_cons_of_mem _ (List.mem_map.mpr ⟨x, (hbs x).mpr hx, rfl⟩)), ?_⟩
          rcases List.mem_cons.mp mk with h | h
          · exact .inl h
          · obtain ⟨x, mx, ex⟩ := List.mem_map.mp h
            exact .inr ⟨x, (hbs x).mp mx, ex⟩
        refine of_set ?_
        refine ⟨.ref t, rfl, .int k, rfl, t, i, b, f, k, rfl, k14 _ _ et List.not_mem_nil, fun H5 T1 k5 eT1 => ?_⟩
        refine of_set ?_
        have k15 := k14.trans k5
        have etr5 := k5 _ _ (kp _ _ (kJ _ _ (k3 _ _ (k2 _ _ etr List.not_mem_nil) List.not_mem_nil) List.not_mem_nil) List.not_mem_nil) List.not_mem_nil
        refine ⟨.ref tr, rfl, .int k, rfl, tr, j, tb, tf, k, rfl, etr5, fun H6 T2 k6 eT2 => ?_⟩
        refine of_set ?_
        have k16 := k15.trans k6
        refine ⟨.int e, rfl, .int e, rfl, .ref a, rfl, .ref T1, rfl, a, T1, n, i, b, pat [i, b, f] k, ps, d, [], rfl, pl.keep k16, i0, i1, nil_tr, k6 _ _ eT1 List.not_mem_nil, fun H7 v1 k7 _ dv1 => ?_⟩
        refine ⟨.ref a, rfl, .ref T2, rfl, a, T2, n, j, tb, pat [j, tb, tf] k, ps, d, [], rfl, pl.keep (k16.trans k7), j0, j1, nil_tr, k7 _ _ eT2 List.not_mem_nil, fun H8 v2 k8 _ dv2 => ?_⟩
        refine ⟨e, v1, v2, _, _, [], rfl, dv1.keep k8, dv2, nil_tr, fun H9 S k9 _ dS => ?_⟩
        refine ⟨.int k, rfl, .ref T1, rfl, .ref T2, rfl, show 5 ≤ sizeLine by decide, fun T nT => ?_⟩
        have kT : Keep [] H9 (upd H9 T (.tup [.int e, .ref S, .int k, .ref T1, .ref T2])) := Keep.new nT
        have k79 := k7.trans (k8.trans k9)
        have k19 := (k16.trans k79).trans kT
        refine q _ T k k19 rk (.tup List.not_mem_nil upd_same (.cons (.int e) (.cons ?_ (.cons (.int k) (.cons ?_ (.cons ?_ .nil))))))
        · have dS' := dS.keep kT
          unfold runA stD withE
          by_cases h : e = 1
          · rw [if_pos h] at dS' ⊢; exact dS'
          · rw [if_neg h] at dS' ⊢; exact dS'
        · exact .tup List.not_mem_nil ((k79.trans kT) _ _ (k6 _ _ eT1 List.not_mem_nil) List.not_mem_nil) (Dts.ints [i, b, pat [i, b, f] k])
        · exact .tup List.not_mem_nil ((k79.trans kT) _ _ eT2 List.not_mem_nil) (Dts.ints [j, tb, pat [j, tb, tf] k])
end
end Rw

namespace Rw
open PySem PySem.Spec PyProof.Rows L2
open PySem PySem.Spec PyProof.Rows L2
/-! ### sorted of rows of any data -/
def leD (a b : PyData) : Bool := !PySem.W.dataLt b a
def sortD (ds : List PyData) : List PyData := ds.mergeSort leD
def rSortD (K : PySem.W.Frag) : List V → Hp → VK → Prop := fun vs H Q => ∃ (a : Addr) (us : List V) (ds : List PyData), vs = [.ref a] ∧ SqL K H a us ∧ DpAll K H us ds ∧ us.length = ds.length ∧ PySem.W.AllAlike ds ∧ (∀ d ∈ ds, ∃ x r, d = .tuple (x :: r)) ∧ ds.length ≤ 100000 ∧ (∀ d ∈ ds, d.depth ≤ 8) ∧
  ∀ p us', H p = none → us'.length = us.length → (∀ av, Dts av H us ds → Dts av H us' (sortD ds)) → Q (.ref p) (upd H p (.lst us'))
theorem each_valsD : ∀ {bs : List (V × PyData)} {us : List Value}, Vals (bs.map (·.1)) us → PySem.W.EachIs (fun u b => RelV b.1 u) us bs
  | [], _, h => by cases h; exact .nil
  | b :: bs, _, h => by
    cases h with
    | cons r t => exact .cons r (each_valsD t)
theorem vals_eachD : ∀ {bs : List (V × PyData)} {us : List Value}, PySem.W.EachIs (fun u b => RelV b.1 u) us bs → Vals (bs.map (·.1)) us
  | _, _, .nil => .nil
  | _, _, .cons r t => .cons r (vals_eachD t)
theorem each_readsD {h : Heap} : ∀ {bs : List (V × PyData)} {us : List Value} {as : List Addr}, ReadsAll h us (bs.map (·.2)) as → PySem.W.EachIs (fun u b => ∃ as, Reads h u b.2 as) us bs
  | [], _, _, h => by cases h; exact .nil
  | b :: bs, _, _, h => by
    cases h with
    | cons r t => exact .cons ⟨_, r⟩ (each_readsD t)
theorem dts_zipD {av : List Addr} {H : Hp} : ∀ {us : List V} {ds : List PyData}, Dts av H us ds → ∀ b ∈ us.zip ds, Dt av H b.1 b.2
  | _, _, .nil, b, m => by cases m
  | _, _, .cons h t, b, m => by
    rcases List.mem_cons.mp (by simpa using m) with rfl | m
    · exact h
    · exact dts_zipD t b m
theorem dts_mapD {av : List Addr} {H : Hp} : ∀ {bs : List (V × PyData)}, (∀ b ∈ bs, Dt av H b.1 b.2) → Dts av H (bs.map (·.1)) (bs.map (·.2))
  | [], _ => .nil
  | b :: bs, h => .cons (h b List.mem_cons_self) (dts_mapD fun c m => h c (List.mem_cons_of_mem _ m))
theorem cr_sortD {X : Cx} (hu : X.A.units + 10 < cLine) : CallR X (.builtin "sorted") (rSortD X.K) := by
  intro pins s σ H vs us Q I r h
  obtain ⟨a, vs0, ds, rfl, sq, dp, hl, al, hn, hm, hd, q⟩ := h
  obtain ⟨its, rv, isl, _⟩ := I.list sq
  rw [Vals.ref1 r]
  obtain ⟨as, rd⟩ := Dp.readsAll I _ _ its dp rv
  have z1 : (vs0.zip ds).map (·.1) = vs0 := List.map_fst_zip (Nat.le_of_eq hl)
  have z2 : (vs0.zip ds).map (·.2) = ds := List.map_snd_zip (Nat.le_of_eq hl.symm)
  have lz : (vs0.zip ds).length = ds.length := by rw [List.length_zip]; omega
  rw [← z1] at rv
  rw [← z2] at rd
  have big : ds.length ≤ sizeLine := Nat.le_trans hm (by decide)
  refine PySem.W.sorted_data (bs := vs0.zip ds) (enc := fun b : V × PyData => b.2) (R := fun u b => RelV b.1 u) isl.isList (each_valsD rv) (each_readsD rd) (by rw [z2]; exact al) (.inl fun d hd => hn d (by rw [z2] at hd; exact hd)) (by rw [lz]; exact big) (fun b hb => ?_) (fun out lo ho => ?_)
  · have := hd b.2 (List.of_mem_zip hb).2
    omega
  · have e0 : PySem.W.dataLe false (fun b : V × PyData => b.2) = fun a b => leD a.2 b.2 := by
      funext a b
      rw [PySem.W.dataLe_eq]; rfl
    rw [e0] at ho
    obtain ⟨ep, he⟩ := PyProof.Rows.sortedAll_at s.heap its out.toArray
    have hv : Vals (((vs0.zip ds).mergeSort fun a b => leD a.2 b.2).map (·.1)) out := vals_eachD ho
    have hlen : (((vs0.zip ds).mergeSort fun a b => leD a.2 b.2).map (·.1)).length = vs0.length := by rw [List.length_map, List.length_mergeSort, lz, hl]
    refine ⟨.ref _, upd H (s.heap.objs.size + 1) (.lst (((vs0.zip ds).mergeSort fun a b => leD a.2 b.2).map (·.1))), I.laid (t' := s.toks) (fun _ _ => PyProof.Rows.sortedAll_old) (Nat.le_succ _) ⟨by rw [hlen, hl]; exact big, out, ep, hv, by simpa using he⟩, rfl, q _ _ (I.hok.fresh (Nat.le_succ _)) hlen (fun av h => ?_)⟩
    have e1 : (((vs0.zip ds).mergeSort fun a b => leD a.2 b.2).map (·.2)) = sortD ds := by
      have := List.map_mergeSort (f := fun b : V × PyData => b.2) (r := fun a b => leD a.2 b.2) (s := leD) (l := vs0.zip ds) (fun _ _ _ _ => rfl)
      rw [this, z2]; rfl
    rw [← e1]
    refine dts_mapD fun b m => dts_zipD h b ((List.mem_mergeSort).mp m)
/-! data of tuples only lie off a list -/
mutual
def flN : PyData → Bool
  | .tuple ds => flNs ds
  | .list _ => false
  | .dict _ => false
  | .none | .bool _ | .int _ | .str _ => true
def flNs : List PyData → Bool
  | [] => true
  | d :: ds => flN d && flNs ds
end
mutual
theorem Dt.offN {H : Hp} {W : Addr} {vs : List V} (e : H W = some (.lst vs)) : ∀ (d : PyData) (v : V), Dt [] H v d → flN d = true → Dt [W] H v d
  | _, _, .non, _ => .non
  | _, _, .bl b, _ => .bl b
  | _, _, .int i, _ => .int i
  | _, _, .str x, _ => .str x
  | .tuple ds, _, .tup (a := a) n ea da, h => by
    simp only [flN] at h
    refine .tup (fun m => ?_) ea (Dts.offN e ds _ da h)
    rw [List.mem_singleton.mp m, e] at ea
    cases ea
theorem Dts.offN {H : Hp} {W : Addr} {vs : List V} (e : H W = some (.lst vs)) : ∀ (ds : List PyData) (us : List V), Dts [] H us ds → flNs ds = true → Dts [W] H us ds
  | [], _, .nil, _ => .nil
  | d :: ds, _, .cons x t, h => by
    simp only [flNs, Bool.and_eq_true] at h
    exact .cons (Dt.offN e d _ x h.1) (Dts.offN e ds _ t h.2)
end
theorem flN_ints : ∀ ns : List Int, flNs (ns.map PyData.int) = true
  | [] => by simp [flNs]
  | n :: ns => by simp [flNs, flN, flN_ints ns]
theorem flN_tupI (ns : List Int) : flN (tupI ns) = true := by unfold tupI; rw [flN, flN_ints]
theorem flN_runD (r : Run) : flN (runD r) = true := by simp [runD, stD, flN, flNs, flN_tupI]
theorem flN_all {α : Type} (f : α → PyData) (h : ∀ x, flN (f x) = true) : ∀ xs : List α, flNs (xs.map f) = true
  | [] => by simp [flNs]
  | x :: xs => by simp [flNs, h x, flN_all f h xs]
/-! ### all runs of an end -/
inductive RunsL (ps : List Pi) (l : Int) (ks : List (Int × Int)) (e : Int) (w : Pl × Pl) (r : List (List Int)) (c : List Int) : List (List Int) → List Run → Prop
  | nil : RunsL ps l ks e w r c [] []
  | skip {ls rs x k} : RunsL ps l ks e w r c ls rs → RunR ps l ks e (ledOn r c x) x w k → k ≤ 0 → RunsL ps l ks e w r c (ls ++ [x]) rs
  | go {ls rs x k} : RunsL ps l ks e w r c ls rs → RunR ps l ks e (ledOn r c x) x w k → 0 < k → RunsL ps l ks e w r c (ls ++ [x]) (rs ++ [runA ps e (ledOn r c x) x k])
theorem RunsL.few {ps : List Pi} {l : Int} {ks : List (Int × Int)} {e : Int} {w : Pl × Pl} {r : List (List Int)} {c : List Int} {ls : List (List Int)} {rs : List Run} (h : RunsL ps l ks e w r c ls rs) : rs.length ≤ ls.length := by
  induction h with
  | nil => exact Nat.le_refl _
  | skip _ _ _ ih => rw [List.length_append]; omega
  | go _ _ _ ih => rw [List.length_append, List.length_append]; exact Nat.add_le_add_right ih 1
/-! the runs of an end by a row from the other end to it -/
def RunsE (ps : List Pi) (d : Int → Int → Int) (l : Int) (ks : List (Int × Int)) (e : Int) (s w : Pl × Pl) (rs : List Run) : Prop :=
  ∃ (r : List (List Int)) (i b f : Int), Chn ps (endP (1 - e) s) (r ++ [[i, b, f]]) (endP e s) ∧ ptot (r ++ [[i, b, f]]) = Dp ps d (endP (1 - e) s) (endP e s) ∧ (∀ c ∈ r ++ [[i, b, f]], c.getD 1 0 ≠ c.getD 2 0) ∧ (∀ c ∈ r, c.getD 2 0 = 0 ∨ c.getD 2 0 = (pr ps (c.getD 0 0)).l) ∧ RunsL ps l ks e w r [i, b, f] (leadsL ps i b f (endP e s)) rs
def rowD (r : Run) : PyData := .tuple [.int r.e, tupI r.s.1, tupI r.s.2, .int r.k]
theorem doors_few (ps : List Pi) (r : Int) : ∀ m : Nat, (doorsTo ps r m).length ≤ 2 * m
  | 0 => by simp [doorsTo]
  | m + 1 => by
    have := doors_few ps r m
    have h : (doorRow ps r m).length ≤ 2 := by unfold doorRow; split <;> split <;> simp
    rw [doorsTo_succ, List.length_append]
    omega
theorem leads_few (ps : List Pi) (i b f : Int) (z : Pl) : (leadsL ps i b f z).length ≤ 2 * ps.length + 1 := by
  unfold leadsL
  split
  · simp
  · have h1 := doors_few ps (z.headD 0) ps.length
    have h2 := List.length_filter_le (fun w : List Int => decide (w.getD 0 0 ≠ i)) (doorsTo ps (z.headD 0) ps.length)
    rw [List.length_map]
    omega
theorem lead_form {n : Int} {ps : List Pi} (hk : HouseOk n ps) {i b f : Int} {z : Pl} (i0 : 0 ≤ i) (i1 : i < ps.length) (f0 : 0 ≤ f) (f1 : f ≤ (pr ps i).l) {x : List Int} (m : x ∈ leadsL ps i b f z) : PcOk ps x ∧ ((x.getD 0 0 = i ∧ x.getD 1 0 = f ∧ (x.getD 2 0 = 0 ∨ x.getD 2 0 = (pr ps i).l)) ∨ x.getD 0 0 ≠ i) := by
  unfold leadsL at m
  split at m
  · rw [List.mem_singleton.mp m]
    have l1 := (hk.ok _ (pr_mem i0 i1).1).fit.l1
    refine ⟨⟨i, f, if b < f then (pr ps i).l else 0, rfl, i0, i1, f0, f1, ?_, ?_⟩, .inl ⟨rfl, rfl, ?_⟩⟩
    · split <;> omega
    · split <;> omega
    · show (if b < f then (pr ps i).l else 0) = 0 ∨ (if b < f then (pr ps i).l else 0) = (pr ps i).l
      split
      · exact .inr rfl
      · exact .inl rfl
  · obtain ⟨w, mw, rfl⟩ := List.mem_map.mp m
    obtain ⟨mw, ne⟩ := List.mem_filter.mp mw
    obtain ⟨j, jl, h⟩ := mem_doors.mp mw
    have l1 := (hk.at jl).1.fit.l1
    have ne' : w.getD 0 0 ≠ i := of_decide_eq_true ne
    rcases h with ⟨_, rfl⟩ | ⟨_, rfl⟩
    · exact ⟨⟨j, 0, (pr ps (j : Int)).l, rfl, by omega, by omega, by omega, by omega, by omega, Int.le_refl _⟩, .inr ne'⟩
    · exact ⟨⟨j, (pr ps (j : Int)).l, 0, rfl, by omega, by omega, by omega, Int.le_refl _, by omega, by omega⟩, .inr ne'⟩
theorem led_ok {ps : List Pi} {r : List (List Int)} {i b f : Int} {x : List Int} (hr : ∀ c ∈ r ++ [[i, b, f]], PcOk ps c) (hx : PcOk ps x) : ∀ c ∈ ledOn r [i, b, f] x, PcOk ps c := by
  intro c hc
  obtain ⟨j, a1, a2, rfl, j0, j1, p0, p1, q0, q1⟩ := hx
  unfold ledOn at hc
  split at hc
  · rename_i e
    have e' : i = j := e
    rcases List.mem_append.mp hc with m | m
    · exact hr c (List.mem_append_left _ m)
    · obtain ⟨i', b', f', e2, i0, i1, b0, b1, _⟩ := hr [i, b, f] (List.mem_append_right _ List.mem_cons_self)
      cases e2
      rw [List.mem_singleton.mp m]
      subst e'
      exact ⟨i, b, a2, rfl, i0, i1, b0, b1, q0, q1⟩
  · rcases List.mem_append.mp hc with m | m
    · exact hr c m
    · rw [List.mem_singleton.mp m]
      exact ⟨j, a1, a2, rfl, j0, j1, p0, p1, q0, q1⟩
theorem rowD_alike (rs : List Run) : PySem.W.AllAlike (rs.map rowD) := fun x hx y hy => by
  obtain ⟨r, _, rfl⟩ := List.mem_map.mp hx
  obtain ⟨t, _, rfl⟩ := List.mem_map.mp hy
  have al : ∀ p q : List Int, PySem.W.alike (tupI p) (tupI q) = true := fun p q => (tupI_alike [p, q]).1 _ List.mem_cons_self _ (List.mem_cons_of_mem _ List.mem_cons_self)
  simp [rowD, PySem.W.alike, PySem.W.alikeAll, al]
theorem rowD_lay (rs : List Run) : PyData.canLayAll0 (rs.map rowD) = true := by
  induction rs with
  | nil => simp [PyData.canLayAll0]
  | cons r rs ih =>
    rw [List.map_cons]
    simp only [PyData.canLayAll0, ih, rowD, PyData.canLay0, tupI, tupI_lay, Bool.and_true]
theorem rowD_depth (rs : List Run) : ∀ d ∈ rs.map rowD, d.depth ≤ 8 := fun d m => by
  obtain ⟨r, _, rfl⟩ := List.mem_map.mp m
  have e := tupI_depths
  simp only [rowD, PyData.depth, PyData.depthAll, tupI, e]
  omega
section
variable {P : Program} {w : World} {K : PySem.W.Frag} {mg : Str → Option Value} {base : Heap}
abbrev sROf : Stmt := topS 58
abbrev nROf : List Str := ["plan", "rope", "stand", "wish", "runs", "end", "row", "lead", "run"]
theorem scROf : FnScope nROf ["plan", "rope", "stand", "wish"] (defScope sROf) := ⟨rfl, rfl, rfl, by decide +kernel, rfl, by decide +kernel, by decide +kernel⟩
def spROf (C : Addr) : Sp := fun vs H Q _ => ∃ (a : Addr) (v sv wv : V) (n l : Int) (ps : List Pi) (d : Int → Int → Int) (ks : List (Int × Int)) (s w : Pl × Pl), vs = [.ref a, v, sv, wv] ∧ PlanAt C [] H a n ps d ∧ HouseOk n ps ∧ Tm n ps d ∧ Dt [] H v (ropeD l ks) ∧ ks.length ≤ 4 ∧ Dt [] H sv (stD s) ∧ okP n ps s.1 ∧ okP n ps s.2 ∧ s.1 ≠ s.2 ∧ Dt [] H wv (stD w) ∧ okP n ps w.1 ∧ okP n ps w.2 ∧
  ∀ (H' : Hp) (L : Addr) (us : List V) (r0 r1 : List Run), Keep [] H H' → H L = none → H' L = some (.lst us) → Dts [] H' us ((r0 ++ r1).map runD) → (r0 ++ r1).length ≤ 200 → RunsE ps d l ks 0 s w r0 → RunsE ps d l ks 1 s w r1 → Q (.ref L) H'
theorem ok_rOf (h : Has K mg "runs_of" sROf) {C : Addr} (cT : ∃ t, mg "TAIL" = some (.int 0 t)) (cH : ∃ t, mg "HEAD" = some (.int 1 t)) (CR : Can P w K mg base "row_of" ["plan", "one", "other"] 3 (spRowZ C)) (CL : Can P w K mg base "leads_of" ["plan", "row", "place"] 1 (spLOf C)) (CA : Can P w K mg base "run_along" ["plan", "rope", "end", "row", "lead", "wish"] 3 (spRAl C)) : Can P w K mg base "runs_of" ["plan", "rope", "stand", "wish"] 4 (spROf C) := by
  obtain ⟨f, fd, F, g⟩ := h
  refine ⟨f, fd, F.ok (k := 3) scROf (fun vs H Q E h => ?_) (fun cdv A outer s H vs Q E hr h => ?_), g, F.kp, F.binds fun _ _ _ _ _ _ us hl => match us, hl with | [_, _, _, _], _ => rfl⟩
  · obtain ⟨a, v, sv, wv, n, l, ps, d, ks, s, w, rfl, _⟩ := h
    rfl
  · obtain ⟨a, v, sv, wv, n, l, ps, d, ks, s, w, rfl, pl, hk, T, dr, k4, ds, os1, os2, ne, dw, ow1, ow2, q⟩ := h
    refine ⟨_, pss_cons (ps_set (i := 4) scROf.nd rfl (by first | exact Or.inl rfl | exact Or.inr rfl) (pe_lst pa_nil))
      (pss_cons (ps_for PassesOwn.never rfl (pi_tup (pe_tup (pa_cons (pe_glob (v := .int 0) rfl cT.choose_spec ⟨_, rfl⟩) (pa_cons (pe_glob (v := .int 1) rfl cH.choose_spec ⟨_, rfl⟩) pa_nil)))) (pg_name (i := 5) scROf.nd rfl (by first | exact Or.inl rfl | exact Or.inr rfl))
      (pss_cons (ps_set (i := 6) scROf.nd rfl (by first | exact Or.inl rfl | exact Or.inr rfl) (pe_can CR (hr.mono (by decide)) (by rfl) (pa_cons (pv 0) (pa_cons (pe_ix ix_tup (pv 2) (pe_op op_sub pe_int (pv 5)) (fun _ _ => rfl)) (pa_cons (pe_ix ix_tup (pv 2) (pv 5) (fun _ _ => rfl)) pa_nil)))))
      (pss_one (ps_for PassesOwn.never rfl (pi_list (pe_can CL (hr.mono (by decide)) (by rfl) (pa_cons (pv 0) (pa_cons (pv 6) (pa_cons (pe_ix ix_tup (pv 2) (pv 5) (fun _ _ => rfl)) pa_nil))))) (pg_name (i := 7) scROf.nd rfl (by first | exact Or.inl rfl | exact Or.inr rfl))
      (pss_cons (ps_set (i := 8) scROf.nd rfl (by first | exact Or.inl rfl | exact Or.inr rfl) (pe_can CA (hr.mono (by decide)) (by rfl) (pa_cons (pv 0) (pa_cons (pv 1) (pa_cons (pv 5) (pa_cons (pv 6) (pa_cons (pv 7) (pa_cons (pv 3) pa_nil))))))))
      (pss_one (ps_if (pt_cmpR op_gt (pe_ix ix_tup (pv 8) pe_int (fun _ _ => rfl)) pe_int (nomark _)) (pss_one (ps_expr (pe_bm PySem.F.plainAttrs_list PySem.F.slot_list_append PySem.F.type_list_append mt_append (pv 4) (pa_cons (pv 8) pa_nil)))) pss_nil)))))))
      (pss_one (ps_ret (pv 4)))), ?_⟩
    obtain ⟨ta, x1, x2, rfl, _, es, d1, d2⟩ := stD_at ds
    have pl15 : ps.length ≤ 15 := by have h1 := hk.n2; have h2 := hk.len; omega
    refine ⟨show 0 ≤ sizeLine by decide, fun L nL => ?_⟩
    have kL : Keep [] H (upd H L (.lst [])) := Keep.new nL
    have eL : (upd H L (.lst [])) L = some (.lst []) := upd_same
    generalize upd H L (.lst []) = G0 at kL eL ⊢
    refine ⟨show 2 ≤ sizeLine by decide, fun T0 nT0 => ?_⟩
    have kT : Keep [] G0 (upd G0 T0 (.tup [.int 0, .int 1])) := Keep.new nT0
    have eT : (upd G0 T0 (.tup [.int 0, .int 1])) T0 = some (.tup [.int 0, .int 1]) := upd_same
    generalize upd G0 T0 (.tup [.int 0, .int 1]) = G1 at kT eT ⊢
    have kHG1 := kL.trans kT
    have eL1 := kT _ _ eL List.not_mem_nil
    have nT0L : T0 ∉ [L] := fun m => by
      rw [List.mem_singleton.mp m, eL1] at eT
      cases eT
    refine ⟨T0, rfl, ⟨_, SqT.of eT⟩, for_tup (K := K) (a := T0) (xs := [.int 0, .int 1]) (fun j σ G => ∃ (s5 s6 s7 s8 : Option V) (us : List V) (r0 r1 : List Run), σ = [some (.ref a), some v, some (.ref ta), some wv, some (.ref L), s5, s6, s7, s8] ∧ Keep [L] G1 G ∧ G L = some (.lst us) ∧ Dts [L] G us ((r0 ++ r1).map runD) ∧ r0.length ≤ 40 ∧ r1.length ≤ 40 ∧ (1 ≤ j → RunsE ps d l ks 0 s w r0) ∧ (2 ≤ j → RunsE ps d l ks 1 s w r1) ∧ (j = 0 → r0 = []) ∧ (j ≤ 1 → r1 = []))
      ⟨_, _, _, _, [], [], [], rfl, Keep.refl _ _, eL1, .nil, Nat.zero_le _, Nat.zero_le _, fun h => absurd h (by decide), fun h => absurd h (by decide), fun _ => rfl, fun _ => rfl⟩ (fun j σ G _ z => ?_) (fun j y σ G gy z => ?_) (fun σ G z => ?_)⟩
    · obtain ⟨_, _, _, _, _, _, _, _, kG, _⟩ := z
      exact SqT.of (kG _ _ eT nT0L)
    · obtain ⟨s5, s6, s7, s8, us, r0, r1, rfl, kG, eLG, dus, l0, l1, h0, h1, e0, e1⟩ := z
      obtain ⟨e, he, ej, rfl⟩ : ∃ e : Int, (e = 0 ∨ e = 1) ∧ e = j ∧ y = .int e := by
        match j, gy with
        | 0, gy => exact ⟨0, .inl rfl, rfl, (Option.some.inj gy).symm⟩
        | 1, gy => exact ⟨1, .inr rfl, rfl, (Option.some.inj gy).symm⟩
        | j + 2, gy => simp at gy
      have kHG : Keep [] H G := (kHG1.of.trans kG).drop nL
      obtain ⟨vh, vb, gh, gb, dh, db, oh, ob⟩ : ∃ vh vb, atI [x1, x2] e = some vh ∧ atI [x1, x2] (1 - e) = some vb ∧ Dt [] H vh (tupI (endP e s)) ∧ Dt [] H vb (tupI (endP (1 - e) s)) ∧ okP n ps (endP e s) ∧ okP n ps (endP (1 - e) s) := by
        rcases he with rfl | rfl
        · exact ⟨x1, x2, rfl, rfl, d1, d2, os1, os2⟩
        · exact ⟨x2, x1, rfl, rfl, d2, d1, os2, os1⟩
      have neb : endP (1 - e) s ≠ endP e s := by
        rcases he with rfl | rfl
        · exact fun h => ne h.symm
        · exact ne
      have esG := kHG _ _ es List.not_mem_nil
      refine ⟨.ref a, rfl, .ref ta, rfl, .int e, rfl, 1, e, rfl, rfl, ta, _, 1 - e, vb, rfl, rfl, SqT.of esG, gb, .ref ta, rfl, .int e, rfl, ta, _, e, vh, rfl, rfl, SqT.of esG, gh, a, vb, vh, n, ps, d, endP (1 - e) s, endP e s, rfl, pl.keep kHG, T, hk.n2, db.keep kHG, dh.keep kHG, ob, oh, fun H1 Rw rus pcs k1 nRw eRw drw ch ht hl nz rm => ?_⟩
      have nz := nz neb
      have dpos := Dp_pos T ob oh neb
      obtain ⟨r, c, rfl⟩ : ∃ r c, pcs = r ++ [c] := by
        have : pcs ≠ [] := fun h => by
          rw [h] at ht
          have : ptot [] = 0 := rfl
          omega
        exact ⟨pcs.dropLast, pcs.getLast this, (List.dropLast_concat_getLast this).symm⟩
      have pcsok := chn_pcs ch
      obtain ⟨i, b, f, rfl, i0, i1, b0, b1, f0, f1⟩ := pcsok c (List.mem_append_right _ List.mem_cons_self)
      have r90 : r.length ≤ 90 := by rw [List.length_append] at hl; omega
      have kH1 := kHG.trans k1
      have eL1' := k1 _ _ eLG List.not_mem_nil
      have nRwL : Rw ∉ [L] := fun m => by
        rw [List.mem_singleton.mp m] at nRw
        rw [nRw] at eLG
        cases eLG
      have drwL : Dts [L] H1 rus ((r ++ [[i, b, f]]).map tupI) := tups_off eL1' drw
      refine of_set ?_
      refine ⟨.ref a, rfl, .ref Rw, rfl, .ref ta, rfl, .int e, rfl, ta, _, e, vh, rfl, rfl, SqT.of (k1 _ _ esG List.not_mem_nil), gh, a, Rw, vh, n, ps, d, endP e s, rus, r, i, b, f, rfl, pl.keep kH1, hk, eRw, drw, i0, i1, dh.keep kH1, oh, fun H2 Ld lus k2 nLd eLd dls => ?_⟩
      have eL2 := k2 _ _ eL1' List.not_mem_nil
      have nLdL : Ld ∉ [L] := fun m => by
        rw [List.mem_singleton.mp m, eL1'] at nLd
        cases nLd
      have dlsL : Dts [L] H2 lus ((leadsL ps i b f (endP e s)).map tupI) := tups_off eL2 dls
      have lfew := leads_few ps i b f (endP e s)
      have llen : lus.length = (leadsL ps i b f (endP e s)).length := by rw [dls.len, List.length_map]
      obtain ⟨rp, erp, lrp⟩ : ∃ rp, rp = r0 ++ r1 ∧ rp.length ≤ 40 := by
        rcases he with rfl | rfl
        · have hj : j = 0 := by omega
          exact ⟨_, rfl, by rw [e0 hj, e1 (by omega)]; exact Nat.zero_le _⟩
        · have hj : j = 1 := by omega
          exact ⟨_, rfl, by rw [e1 (by omega), List.append_nil]; exact l0⟩
      refine ⟨Ld, rfl, ⟨_, SqL.of eLd⟩, for_list (K := K) (a := Ld) (xs := lus) (fun t σ M => ∃ (s7 s8 : Option V) (us : List V) (rs : List Run), σ = [some (.ref a), some v, some (.ref ta), some wv, some (.ref L), some (.int e), some (.ref Rw), s7, s8] ∧ Keep [L] H2 M ∧ M L = some (.lst us) ∧ Dts [L] M us ((rp ++ rs).map runD) ∧ RunsL ps l ks e w r [i, b, f] ((leadsL ps i b f (endP e s)).take t) rs)
        ⟨_, _, us, [], rfl, Keep.refl _ _, eL2, by rw [List.append_nil, erp]; exact dus.keep (k1.trans k2).of, .nil⟩ (fun t σ M _ z => ?_) (fun t y σ M gy z => ?_) (fun σ M z => ?_)⟩
      · obtain ⟨_, _, _, _, _, kM, _⟩ := z
        exact SqL.of (kM _ _ eLd nLdL)
      · obtain ⟨s7', s8', us', rs, rfl, kM, eLM, dusM, hR⟩ := z
        have kGM : Keep [L] G M := (k1.trans k2).of.trans kM
        have kHM : Keep [] H M := ((kHG.of : Keep [L] H G).trans kGM).drop nL
        obtain ⟨dd, gd, dy⟩ := (dlsL.keep kM).getv t gy
        rw [List.getElem?_map] at gd
        obtain ⟨x, gx, rfl⟩ := Option.map_eq_some_iff.mp gd
        have ht' := (List.getElem?_eq_some_iff.mp gx).1
        obtain ⟨okx, _⟩ := lead_form hk i0 i1 f0 f1 (List.mem_of_getElem? gx)
        have okled := led_ok pcsok okx
        obtain ⟨i', b', f', rfl, i0', i1', _⟩ := okx
        obtain ⟨tl, rfl, _, etl⟩ := tupI_at dy
        have tk : (leadsL ps i b f (endP e s)).take (t + 1) = (leadsL ps i b f (endP e s)).take t ++ [[i', b', f']] := by rw [List.take_add_one, gx]; rfl
        have k2M : Keep [L] H1 M := k2.of.trans kM
        refine ⟨.ref a, rfl, v, rfl, .int e, rfl, .ref Rw, rfl, .ref tl, rfl, wv, rfl, a, Rw, tl, v, wv, n, l, e, i', b', f', ps, d, ks, rus, r, [i, b, f], w, rfl, pl.keep kHM, hk, dr.keep kHM, k4, he, k2M _ _ eRw nRwL, (drwL.keep k2M).any, ⟨i, b, f, rfl⟩, r90, etl, okled, i0', i1', dw.keep kHM, ow1, ow2, fun H3 T3 k k3 rk dT => ?_⟩
        refine of_set ?_
        have eL3 := k3 _ _ eLM List.not_mem_nil
        obtain ⟨T3', vs3, eT3', _, eT3, dvs3⟩ := tup_at (show Dt [] H3 (.ref T3) (.tuple [.int e, stD _, .int k, tupI _, tupI _]) from dT)
        cases eT3'
        have g2 : ∃ v3 v4 v5 v6, vs3 = [v3, v4, .int k, v5, v6] := by
          rcases dvs3 with _ | ⟨q1, _ | ⟨q2, _ | ⟨q3, _ | ⟨q4, _ | ⟨q5, _ | _⟩⟩⟩⟩⟩
          cases q3
          exact ⟨_, _, _, _, rfl⟩
        obtain ⟨v3, v4, v5, v6, rfl⟩ := g2
        have lus' : us'.length = (rp ++ rs).length := by rw [dusM.len, List.length_map]
        have lrs := hR.few
        rw [List.length_take] at lrs
        refine ⟨.ref T3, rfl, T3, _, 2, .int k, rfl, rfl, SqT.of eT3, atI_nat (j := 2) rfl, k, 0, rfl, rfl, _, rfl, ite2 (fun c => ?_) (fun c => ?_)⟩
        · have kp : 0 < k := of_decide_eq_true c
          refine ⟨.ref L, rfl, .inl ⟨rfl, _, SqL.of eL3⟩, .ref T3, rfl, L, us', .ref T3, rfl, rfl, eL3, small1000 (by rw [lus', List.length_append]; omega), ?_⟩
          refine ⟨_, _, us' ++ [.ref T3], rs ++ [runA ps e (ledOn r [i, b, f] [i', b', f']) [i', b', f'] k], rfl, (kM.trans k3.of).trans (Keep.put List.mem_cons_self), upd_same, ?_, by rw [tk]; exact hR.go rk kp⟩
          rw [← List.append_assoc, List.map_append]
          exact ((dusM.keep k3.of).app (.cons (Dt.offN eL3 _ _ dT (flN_runD _)) .nil)).keep (Keep.put List.mem_cons_self)
        · have kp : k ≤ 0 := by
            have : ¬ 0 < k := fun h => c (decide_eq_true h)
            omega
          exact ⟨_, _, us', rs, rfl, kM.trans k3.of, eL3, dusM.keep k3.of, by rw [tk]; exact hR.skip rk kp⟩
      · obtain ⟨s7', s8', us', rs, rfl, kM, eLM, dusM, hR⟩ := z
        rw [llen, List.take_length] at hR
        have lrs := hR.few
        have run : RunsE ps d l ks e s w rs := ⟨r, i, b, f, ch, ht, nz, fun c m => rm c (by rw [List.dropLast_concat]; exact m), hR⟩
        have kGM : Keep [L] G M := (k1.trans k2).of.trans kM
        rcases he with rfl | rfl
        · have hj : j = 0 := by omega
          have er0 := e0 hj
          have er1 := e1 (by omega)
          rw [erp, er0, er1] at dusM
          refine ⟨_, _, _, _, us', rs, [], rfl, kG.trans kGM, eLM, by rw [List.append_nil]; exact dusM, by omega, Nat.zero_le _, fun _ => run, fun h => absurd h (by omega), fun h => absurd h (by omega), fun _ => rfl⟩
        · have hj : j = 1 := by omega
          have er1 := e1 (by omega)
          rw [erp, er1, List.append_nil] at dusM
          exact ⟨_, _, _, _, us', r0, rs, rfl, kG.trans kGM, eLM, dusM, l0, by omega, fun _ => h0 (by omega), fun _ => run, fun h => absurd h (by omega), fun h => absurd h (by omega)⟩
    · obtain ⟨s5, s6, s7, s8, us, r0, r1, rfl, kG, eLG, dus, l0, l1, h0, h1, _⟩ := z
      exact ⟨.ref L, rfl, q G L us r0 r1 ((kHG1.of.trans kG).drop nL) nL eLG dus.any (by rw [List.length_append]; omega) (h0 (by decide)) (h1 (by decide))⟩
abbrev sHal : Stmt := topS 66
abbrev nHal : List Str := ["house", "rope", "stand", "wish", "rows", "end", "halt", "steps", "lead", "trail"]
theorem scHal : FnScope nHal ["house", "rope", "stand", "wish"] (defScope sHal) := ⟨rfl, rfl, rfl, by decide +kernel, rfl, by decide +kernel, by decide +kernel⟩
def spHal : Sp := fun vs H Q _ => ∃ (h v sv wv : V) (n l : Int) (ps : List Pi) (d : Int → Int → Int) (ks : List (Int × Int)) (s w : Pl × Pl), vs = [h, v, sv, wv] ∧ Dt [] H h (houseD n (ps.map Pi.dat)) ∧ HouseOk n ps ∧ Tm n ps d ∧ Dt [] H v (ropeD l ks) ∧ ks.length ≤ 4 ∧ Dt [] H sv (stD s) ∧ okP n ps s.1 ∧ okP n ps s.2 ∧ s.1 ≠ s.2 ∧ Dt [] H wv (stD w) ∧ okP n ps w.1 ∧ okP n ps w.2 ∧
  ∀ (H' : Hp) (T : Addr) (us : List V) (r0 r1 : List Run), Keep [] H H' → H' T = some (.tup us) → Dts [] H' us (sortD ((r0 ++ r1).map rowD)) → RunsE ps d l ks 0 s w r0 → RunsE ps d l ks 1 s w r1 → Q (.ref T) H'
theorem ok_hal (h : Has K mg "halts" sHal) {C : Addr} (B : Blt mg) (CPn : CanMk P w K mg base "Plan" C ["self", "house"] 2 (spInit C)) (CRo : Can P w K mg base "runs_of" ["plan", "rope", "stand", "wish"] 4 (spROf C)) : Can P w K mg base "halts" ["house", "rope", "stand", "wish"] 5 spHal := by
  obtain ⟨f, fd, F, g⟩ := h
  refine ⟨f, fd, F.ok (k := 4) scHal (fun vs H Q E h => ?_) (fun cdv A outer s H vs Q E hr h => ?_), g, F.kp, F.binds fun _ _ _ _ _ _ us hl => match us, hl with | [_, _, _, _], _ => rfl⟩
  · obtain ⟨h, v, sv, wv, n, l, ps, d, ks, s, w, rfl, _⟩ := h
    rfl
  · obtain ⟨h, v, sv, wv, n, l, ps, d, ks, s, w, rfl, hh, hk, T, dr, k4, ds, os1, os2, ne, dw, ow1, ow2, q⟩ := h
    refine ⟨_, pss_cons (ps_set (i := 4) scHal.nd rfl (by first | exact Or.inl rfl | exact Or.inr rfl) (pe_lst pa_nil))
      (pss_cons (ps_for PassesOwn.never rfl (pi_list (pe_can CRo (hr.mono (by decide)) (by rfl) (pa_cons (pe_mk CPn (hr.mono (by decide)) (by rfl) (pa_cons (pv 0) pa_nil)) (pa_cons (pv 1) (pa_cons (pv 2) (pa_cons (pv 3) pa_nil)))))) (pg_tup (by rfl) (pgs_cons (pg_name (i := 5) scHal.nd rfl (by first | exact Or.inl rfl | exact Or.inr rfl)) (pgs_cons (pg_name (i := 6) scHal.nd rfl (by first | exact Or.inl rfl | exact Or.inr rfl)) (pgs_cons (pg_name (i := 7) scHal.nd rfl (by first | exact Or.inl rfl | exact Or.inr rfl)) (pgs_cons (pg_name (i := 8) scHal.nd rfl (by first | exact Or.inl rfl | exact Or.inr rfl)) (pgs_cons (pg_name (i := 9) scHal.nd rfl (by first | exact Or.inl rfl | exact Or.inr rfl)) pgs_nil))))))
      (pss_one (ps_expr (pe_bm PySem.F.plainAttrs_list PySem.F.slot_list_append PySem.F.type_list_append mt_append (pv 4) (pa_cons (pe_tup (pa_cons (pv 5) (pa_cons (pe_ix ix_tup (pv 6) pe_int (fun _ _ => rfl)) (pa_cons (pe_ix ix_tup (pv 6) pe_int (fun _ _ => rfl)) (pa_cons (pv 7) pa_nil))))) pa_nil)))))
      (pss_one (ps_ret (pe_callTy call_tuple_of (by rfl) B.tuple_ boot_tuple (pa_cons (pe_callB (cr_sortD (hu10 hr)) (by rfl) B.sorted_ boot_sorted (pa_cons (pv 4) pa_nil)) pa_nil))))), ?_⟩
    refine ⟨show 0 ≤ sizeLine by decide, fun L nL => ?_⟩
    have kL : Keep [] H (upd H L (.lst [])) := Keep.new nL
    have eL : (upd H L (.lst [])) L = some (.lst []) := upd_same
    generalize upd H L (.lst []) = G0 at kL eL ⊢
    refine ⟨h, rfl, fun x dx nx ndx nex => plan_made (C := C) (hh.keep kL) hk T (fun _ m => absurd m List.not_mem_nil) nx ndx nex (fun H1 k1 _ pl => ?_)⟩
    have kH1 := kL.trans k1
    refine ⟨rfl, v, rfl, sv, rfl, wv, rfl, x, v, sv, wv, n, l, ps, d, ks, s, w, rfl, pl, hk, T, dr.keep kH1, k4, ds.keep kH1, os1, os2, ne, dw.keep kH1, ow1, ow2, fun H2 R rus r0 r1 k2 nR eR dR lR hr0 hr1 => ?_⟩
    have eL1 := k1 _ _ eL List.not_mem_nil
    have eL2 := k2 _ _ eL1 List.not_mem_nil
    have nRL : R ∉ [L] := fun m => by
      rw [List.mem_singleton.mp m, eL1] at nR
      cases nR
    obtain ⟨rs, hrs⟩ : ∃ rs, rs = r0 ++ r1 := ⟨_, rfl⟩
    rw [← hrs] at dR lR
    have lrs : rus.length = rs.length := by rw [dR.len, List.length_map]
    have dRL : Dts [L] H2 rus (rs.map runD) := Dts.offN eL2 _ _ dR (flN_all runD flN_runD rs)
    refine ⟨R, rfl, ⟨_, SqL.of eR⟩, for_list (K := K) (a := R) (xs := rus) (fun t σ M => ∃ (s5 s6 s7 s8 s9 : Option V) (us : List V), σ = [some h, some v, some sv, some wv, some (.ref L), s5, s6, s7, s8, s9] ∧ Keep [L] H2 M ∧ M L = some (.lst us) ∧ Dts [L] M us ((rs.take t).map rowD))
      ⟨_, _, _, _, _, [], rfl, Keep.refl _ _, eL2, .nil⟩ (fun t σ M _ z => ?_) (fun t y σ M gy z => ?_) (fun σ M z => ?_)⟩
    · obtain ⟨_, _, _, _, _, _, _, kM, _⟩ := z
      exact SqL.of (kM _ _ eR nRL)
    · obtain ⟨s5, s6, s7, s8, s9, us, rfl, kM, eLM, dM⟩ := z
      obtain ⟨dd, gd, dy⟩ := (dRL.keep kM).getv t gy
      rw [List.getElem?_map] at gd
      obtain ⟨r, gr, rfl⟩ := Option.map_eq_some_iff.mp gd
      have ht := (List.getElem?_eq_some_iff.mp gr).1
      obtain ⟨ya, ys, rfl, _, eya, dys⟩ := tup_at (show Dt [L] M y (.tuple [.int r.e, stD r.s, .int r.k, tupI r.led, tupI r.drg]) from dy)
      rcases dys with _ | ⟨q1, _ | ⟨q2, _ | ⟨q3, _ | ⟨q4, _ | ⟨q5, _ | _⟩⟩⟩⟩⟩
      cases q1
      cases q3
      obtain ⟨sa, y1, y2, rfl, _, esa, dy1, dy2⟩ := stD_at q2
      refine ⟨ya, _, rfl, SqT.of eya, rfl, _, _, rfl, _, _, rfl, _, _, rfl, _, _, rfl, _, [], rfl, rfl, ?_⟩
      have tk : rs.take (t + 1) = rs.take t ++ [r] := by rw [List.take_add_one, gr]; rfl
      have lus : us.length = (rs.take t).length := by rw [dM.len, List.length_map]
      rw [List.length_take] at lus
      refine ⟨.ref L, rfl, .inl ⟨rfl, _, SqL.of eLM⟩, .int r.e, rfl, .ref sa, rfl, sa, _, 0, y1, rfl, rfl, SqT.of esa, atI_nat (j := 0) rfl, .ref sa, rfl, sa, _, 1, y2, rfl, rfl, SqT.of esa, atI_nat (j := 1) rfl, .int r.k, rfl, show 4 ≤ sizeLine by decide, fun T1 nT1 => ?_⟩
      have kT : Keep [] M (upd M T1 (.tup [.int r.e, y1, y2, .int r.k])) := Keep.new nT1
      have eLT := kT _ _ eLM List.not_mem_nil
      have eT1 : (upd M T1 (.tup [.int r.e, y1, y2, .int r.k])) T1 = some (.tup [.int r.e, y1, y2, .int r.k]) := upd_same
      have nT1L : T1 ∉ [L] := fun m => by
        rw [List.mem_singleton.mp m, eLM] at nT1
        cases nT1
      generalize upd M T1 (.tup [.int r.e, y1, y2, .int r.k]) = M1 at kT eLT eT1 ⊢
      refine ⟨L, us, .ref T1, rfl, rfl, eLT, small1000 (by omega), ?_⟩
      refine ⟨_, _, _, _, _, us ++ [.ref T1], rfl, (kM.trans kT.of).trans (Keep.put List.mem_cons_self), upd_same, ?_⟩
      rw [tk, List.map_append]
      exact ((dM.keep kT.of).app (.cons (.tup nT1L eT1 (.cons (.int _) (.cons (dy1.keep kT.of) (.cons (dy2.keep kT.of) (.cons (.int _) .nil))))) .nil)).keep (Keep.put List.mem_cons_self)
    · obtain ⟨s5, s6, s7, s8, s9, us, rfl, kM, eLM, dM⟩ := z
      rw [lrs, List.take_length] at dM
      have lus : us.length = (rs.map rowD).length := dM.len
      rw [List.length_map] at lus
      refine ⟨.ref L, rfl, L, us, rs.map rowD, rfl, SqL.of eLM, Dts.dp _ _ dM.any (rowD_lay rs), dM.len, rowD_alike rs, fun d m => ?_, by rw [List.length_map]; omega, fun d m => rowD_depth rs d m, fun p us' np lu' hs => ?_⟩
      · obtain ⟨r, _, rfl⟩ := List.mem_map.mp m
        exact ⟨_, _, rfl⟩
      have kp : Keep [] M (upd M p (.lst us')) := Keep.new np
      have ep : (upd M p (.lst us')) p = some (.lst us') := upd_same
      have kHM : Keep [] H M := ((kH1.of.trans (k2.of : Keep [L] H1 H2)).trans kM).drop nL
      generalize upd M p (.lst us') = M2 at kp ep ⊢
      refine ⟨p, us', rfl, .inl ⟨SqL.of ep, fun T2 nT2 => ?_⟩⟩
      exact q _ T2 us' r0 r1 (kHM.trans (kp.trans (Keep.new nT2))) upd_same (by rw [← hrs]; exact (hs [] dM.any).keep (kp.trans (Keep.new nT2))) hr0 hr1
end
end Rw

namespace Rw
open PySem PySem.Spec PyProof.Rows L2
abbrev sSame : Stmt := topS 76
abbrev nSame : List Str := ["_law_found", "_law_due", "_law_k"]
theorem scSame : FnScope nSame ["_law_found", "_law_due"] (defScope sSame) := ⟨rfl, rfl, rfl, by decide +kernel, rfl, by decide +kernel, by decide +kernel⟩
inductive IN : Nat → PyData → Prop
  | non (m : Nat) : IN m .none
  | int (m : Nat) (i : Int) : IN m (.int i)
  | bool (m : Nat) (b : Bool) : IN m (.bool b)
  | str (m : Nat) (x : Str) : IN m (.str x)
  | tup {m : Nat} {ds : List PyData} : ds.length ≤ 100000 → (∀ d ∈ ds, IN m d) → IN (m + 1) (.tuple ds)
def leafN : PyData → Bool
  | .none => true
  | .int _ => true
  | .bool _ => true
  | .str _ => true
  | _ => false
def FN (W : Addr) (H : Hp) (i : Nat) (J : Hp) : Prop := Keep [] H J ∧ J W = some (.lst [])
section
variable {P : Program} {w : World} {K : PySem.W.Frag} {mg : Str → Option Value} {base : Heap}
theorem same_leafN {f : Addr} {fd : FuncData} (F : Fun K "_law_same" "_law_same" sSame f fd) (B : Blt mg) {k : Nat} {cdv : Value} {A : Around} {outer : List Env} {s : Shared} {H : Hp} {Q : VK} {E : XK} {v u : V} {d : PyData} (hr : Room k (A.deeper (envOfC "_law_same" (defScope sSame) s.heap.objs.size f cdv))) (hv : Dt [] H v d) (hu : Dt [] H u d) (lf : leafN d = true) (q : ∀ H', Keep [] H H' → Q (.bl true) H') :
    ∃ t, PSs (cxOf CX0 P w K mg base nSame "_law_same" (defScope sSame) f cdv A outer s H E).nox (defBody sSame) t ∧ t { nx := fun _ H' => Q .non H', rt := Q } (L2.start nSame [v, u]) H := by
  refine ⟨_, pss_cons (ps_if (pt_val (pe_callB (call_isD kit_tup) (by rfl) B.isi boot_isinstance (pa_cons (pv 1) (pa_cons (pe_bltn (v := .ty "tuple") (by rfl) B.tuple_ boot_tuple rfl) pa_nil)))) (pss_cons ps_never
      (pss_one ps_never)) pss_nil)
      (pss_cons (ps_if (pt_cmpR op_isN (pv 1) pe_non (nomark _)) (pss_one (ps_ret (pe_cmpR op_isN (pv 0) pe_non (nomark _)))) pss_nil)
      (pss_cons (ps_if (pt_val (pe_callB (call_isD kit_bool) (by rfl) B.isi boot_isinstance (pa_cons (pv 1) (pa_cons (pe_bltn (v := .ty "bool") (by rfl) B.bool_ boot_bool rfl) pa_nil)))) (pss_one (ps_ret (pe_and (pe_callB (call_isD kit_bool) (by rfl) B.isi boot_isinstance (pa_cons (pv 0) (pa_cons (pe_bltn (v := .ty "bool") (by rfl) B.bool_ boot_bool rfl) pa_nil))) (pe_one (pe_cmpR op_eq (pv 0) (pv 1) (nomark _)))))) pss_nil)
      (pss_cons (ps_if (pt_val (pe_callB (call_isD kit_str) (by rfl) B.isi boot_isinstance (pa_cons (pv 1) (pa_cons (pe_bltn (v := .ty "str") (by rfl) B.str_ boot_str rfl) pa_nil)))) (pss_one (ps_ret (pe_and (pe_callB (call_isD kit_str) (by rfl) B.isi boot_isinstance (pa_cons (pv 0) (pa_cons (pe_bltn (v := .ty "str") (by rfl) B.str_ boot_str rfl) pa_nil))) (pe_one (pe_cmpR op_eq (pv 0) (pv 1) (nomark _)))))) pss_nil)
      (pss_one (ps_ret (pe_and (pe_callB (call_isD kit_int) (by rfl) B.isi boot_isinstance (pa_cons (pv 0) (pa_cons (pe_bltn (v := .ty "int") (by rfl) B.int_ boot_int rfl) pa_nil))) (pe_and (pe_not (pe_callB (call_isD kit_bool) (by rfl) B.isi boot_isinstance (pa_cons (pv 0) (pa_cons (pe_bltn (v := .ty "bool") (by rfl) B.bool_ boot_bool rfl) pa_nil)))) (pe_one (pe_cmpR op_eq (pv 0) (pv 1) (nomark _)))))))))), ?_⟩
  cases hv <;> first | (cases lf; done) | skip
  · cases hu
    exact ⟨.non, rfl, .non, _, [], rfl, .non, _, rfl, iteF ⟨.non, rfl, rfl, _, rfl, iteT ⟨.non, rfl, rfl, q _ (Keep.refl _ _)⟩⟩⟩
  · rename_i i
    cases hu
    refine ⟨.bl i, rfl, .bl i, .bool i, [], rfl, .bl i, _, rfl, iteF ⟨.bl i, rfl, rfl, _, rfl, ?_⟩⟩
    rw [show decide (V.bl i = V.non) = false from decide_eq_false (fun e => by cases e)]
    refine iteF ⟨.bl i, rfl, .bl i, .bool i, [], rfl, .bl i, _, rfl, iteT ⟨.bl i, rfl, .bl i, .bool i, [], rfl, .bl i, _, rfl, iteT ⟨.bl i, rfl, .bl i, rfl, rfl, ?_⟩⟩⟩
    rw [decide_eq_true (rfl : V.bl i = V.bl i)]
    exact q _ (Keep.refl _ _)
  · rename_i i
    cases hu
    refine ⟨.int i, rfl, .int i, .int i, [], rfl, .int i, _, rfl, iteF ⟨.int i, rfl, rfl, _, rfl, ?_⟩⟩
    rw [show decide (V.int i = V.non) = false from decide_eq_false (fun e => by cases e)]
    refine iteF ⟨.int i, rfl, .int i, .int i, [], rfl, .int i, _, rfl, iteF ⟨.int i, rfl, .int i, .int i, [], rfl, .int i, _, rfl, iteF ?_⟩⟩
    refine ⟨.int i, rfl, .int i, .int i, [], rfl, .int i, _, rfl, iteT ⟨.int i, rfl, .int i, .int i, [], rfl, .int i, _, rfl, _, rfl, iteT ⟨.int i, rfl, .int i, rfl, rfl, ?_⟩⟩⟩
    rw [decide_eq_true (rfl : V.int i = V.int i)]
    exact q _ (Keep.refl _ _)
  · rename_i x
    cases hu
    refine ⟨.str x, rfl, .str x, .str x, [], rfl, .str x, _, rfl, iteF ⟨.str x, rfl, rfl, _, rfl, ?_⟩⟩
    rw [show decide (V.str x = V.non) = false from decide_eq_false (fun e => by cases e)]
    refine iteF ⟨.str x, rfl, .str x, .str x, [], rfl, .str x, _, rfl, iteF ⟨.str x, rfl, .str x, .str x, [], rfl, .str x, _, rfl, iteT ?_⟩⟩
    refine ⟨.str x, rfl, .str x, .str x, [], rfl, .str x, _, rfl, iteT ⟨.str x, rfl, .str x, rfl, rfl, ?_⟩⟩
    rw [decide_eq_true (rfl : V.str x = V.str x)]
    exact q _ (Keep.refl _ _)
def spSameN (m : Nat) : Sp := fun vs H Q _ => ∃ (v u : V) (d : PyData), vs = [v, u] ∧ Dt [] H v d ∧ Dt [] H u d ∧ IN m d ∧ ∀ H', Keep [] H H' → Q (.bl true) H'
theorem ok_sameN (h : Has K mg "_law_same" sSame) (B : Blt mg) : ∀ m, Can P w K mg base "_law_same" ["_law_found", "_law_due"] (m + 1) (spSameN m) := by
  intro m
  induction m with
  | zero =>
    obtain ⟨f, fd, F, g⟩ := h
    refine ⟨f, fd, F.ok (k := 0) scSame (fun vs H Q E h => ?_) (fun cdv A outer s H vs Q E hr h => ?_), g, F.kp, F.binds fun _ _ _ _ _ _ us hl => match us, hl with | [_, _], _ => rfl⟩
    · obtain ⟨v, u, d, rfl, _⟩ := h
      rfl
    · obtain ⟨v, u, d, rfl, hv, hu, ib, q⟩ := h
      exact same_leafN F B hr hv hu (by cases ib <;> rfl) q
  | succ m ih =>
    obtain ⟨f, fd, F, g⟩ := h
    refine ⟨f, fd, F.ok (k := m + 1) scSame (fun vs H Q E h => ?_) (fun cdv A outer s H vs Q E hr h => ?_), g, F.kp, F.binds fun _ _ _ _ _ _ us hl => match us, hl with | [_, _], _ => rfl⟩
    · obtain ⟨v, u, d, rfl, _⟩ := h
      rfl
    · obtain ⟨v, u, d, rfl, hv, hu, ib, q⟩ := h
      cases ib with
      | non _ => exact same_leafN F B hr hv hu rfl q
      | int _ i => exact same_leafN F B hr hv hu rfl q
      | bool _ i => exact same_leafN F B hr hv hu rfl q
      | str _ i => exact same_leafN F B hr hv hu rfl q
      | tup ln hd =>
        rename_i ds
        have C0 := ih
        refine ⟨_, pss_cons (ps_if (pt_val (pe_callB (call_isD kit_tup) (by rfl) B.isi boot_isinstance (pa_cons (pv 1) (pa_cons (pe_bltn (v := .ty "tuple") (by rfl) B.tuple_ boot_tuple rfl) pa_nil)))) (pss_cons (ps_if (PW.pt (pw_or (pt_not (pt_val (pe_callB (call_isD kit_tup) (by rfl) B.isi boot_isinstance (pa_cons (pv 0) (pa_cons (pe_bltn (v := .ty "tuple") (by rfl) B.tuple_ boot_tuple rfl) pa_nil))))) (pw_or1 (pt_cmpR op_ne (pe_callB call_len_seq (by rfl) B.len_ PySem.boot_len (pa_cons (pv 0) pa_nil)) (pe_callB call_len_seq (by rfl) B.len_ PySem.boot_len (pa_cons (pv 1) pa_nil)) (nomark _))))) (pss_one (ps_ret pe_bl)) pss_nil)
      (pss_one (ps_ret (pe_cmpR (op_eqNilL hr.units0) (pe_lc (own := [("_law_k", 2)]) (g := gName 2) rfl scSame.nd (pi_range1 (by rfl) B.range_ (pa_cons (pe_callB call_len_seq (by rfl) B.len_ PySem.boot_len (pa_cons (pv 1) pa_nil)) pa_nil)) (blkOk_by (N := nSame) (sc := defScope sSame) (by decide +kernel)) (fun _ _ _ _ _ => (pg_name (i := 2) scSame.nd rfl (by first | exact Or.inl rfl | exact Or.inr rfl))) (fun _ _ _ _ _ => pts_one (pt_not (pt_val (pe_can C0 hr (by rfl) (pa_cons (pe_ix (ix_tupK (K := K) rfl) (pv 0) (pv 2) (fun _ _ => rfl)) (pa_cons (pe_ix (ix_tupK (K := K) rfl) (pv 1) (pv 2) (fun _ _ => rfl)) pa_nil)))))) (fun _ _ _ _ _ => (pv 2))) (pe_lst pa_nil) (nomark _))))) pss_nil)
      (pss_cons (ps_if (pt_cmpR op_isN (pv 1) pe_non (nomark _)) (pss_one ps_never) pss_nil)
      (pss_cons (ps_if (pt_val (pe_callB (call_isD kit_bool) (by rfl) B.isi boot_isinstance (pa_cons (pv 1) (pa_cons (pe_bltn (v := .ty "bool") (by rfl) B.bool_ boot_bool rfl) pa_nil)))) (pss_one ps_never) pss_nil)
      (pss_cons (ps_if (pt_val (pe_callB (call_isD kit_str) (by rfl) B.isi boot_isinstance (pa_cons (pv 1) (pa_cons (pe_bltn (v := .ty "str") (by rfl) B.str_ boot_str rfl) pa_nil)))) (pss_one ps_never) pss_nil)
      (pss_one ps_never)))), ?_⟩
        cases hv with
        | tup n1 ea da =>
          rename_i a xs
          cases hu with
          | tup n2 eb db =>
            rename_i b ys
            have la := da.len
            have lb := db.len
            have A : Dt [] H (.ref a) (.tuple ds) := .tup List.not_mem_nil ea da
            have Bb : Dt [] H (.ref b) (.tuple ds) := .tup List.not_mem_nil eb db
            refine ⟨.ref b, rfl, .ref b, _, [], rfl, Bb, _, rfl, iteT ?_⟩
            refine ⟨.ref a, rfl, .ref a, _, [], rfl, A, _, rfl, iteF ?_⟩
            refine ⟨.ref a, rfl, a, _, rfl, .inr (SqT.of ea), .ref b, rfl, b, _, rfl, .inr (SqT.of eb), rfl, _, rfl, ?_⟩
            rw [la, lb]
            refine iteNS rfl ?_
            refine ⟨.ref b, rfl, b, _, rfl, .inr (SqT.of eb), _, rfl, by omega, by omega, fun W nW => ?_⟩
            refine lc_range (lo := 0) (n := ((ys.length : Int)).toNat) (FN W H) ⟨Keep.new nW, upd_same⟩ (fun j J hj p => ?_) (fun J p => ?_)
            · have lj : j < ds.length := by omega
              have gd : ds[j]? = some ds[j] := List.getElem?_eq_getElem lj
              obtain ⟨va, gva, dva⟩ := da.get j gd
              obtain ⟨vb, gvb, dvb⟩ := db.get j gd
              have ea5 := p.1.same a _ ea
              have eb5 := p.1.same b _ eb
              refine ⟨rfl, .ref a, rfl, .int (0 + (j : Int)), rfl, a, _, 0 + (j : Int), va, rfl, rfl, SqT.of ea5, atI_of (by omega) (by rw [show (0 + (j : Int)).toNat = j by omega]; exact gva), .ref b, rfl, .int (0 + (j : Int)), rfl, b, _, 0 + (j : Int), vb, rfl, rfl, SqT.of eb5, atI_of (by omega) (by rw [show (0 + (j : Int)).toNat = j by omega]; exact gvb), va, vb, ds[j], rfl, dva.keep p.1, dvb.keep p.1, hd _ (List.getElem_mem lj), fun J2 k2 => ⟨_, rfl, iteF ?_⟩⟩
              exact ⟨p.1.trans k2, k2 _ _ p.2 List.not_mem_nil⟩
            · obtain ⟨k3, ew⟩ := p
              refine ⟨show 0 ≤ sizeLine by decide, fun z nz => ?_⟩
              refine ⟨W, z, [], rfl, rfl, SqL.of (Keep.new (av := []) (o := .lst []) nz _ _ ew List.not_mem_nil), SqL.of upd_same, ?_⟩
              exact q _ (k3.trans (Keep.new (o := .lst []) nz))
end
end Rw

namespace Rw
/-! ### a house of one pipe -/
def onep (L : Int) (na fl : List (Int × Int)) : List Pi := [⟨0, 1, L, na, fl⟩]
def sp1 (L a : Int) : Pl := if a = 0 then [0] else if a = L then [1] else [0, a]
def sd1 (L t l : Int) : Pl × Pl := (sp1 L t, sp1 L (t + l))
theorem nm1 (L a : Int) (na fl : List (Int × Int)) : nm (onep L na fl) 0 a = sp1 L a := rfl
theorem okH1 {L : Int} {na fl : List (Int × Int)} (f : Fit L na fl) : okH 2 (onep L na fl) := ⟨by decide, by decide, rfl, fun p m => by
    rw [List.mem_singleton.mp m]
    exact ⟨by show (0 : Int) ≤ 0; decide, by show (0 : Int) ≤ 2 - 1; decide, by show (0 : Int) ≤ 1; decide, by show (1 : Int) ≤ 2 - 1; decide, by show (0 : Int) < 1; decide, f⟩, fun S h a ha => by
    have := h (0, 1) (by show (0, 1) ∈ edges [⟨0, 1, L, na, fl⟩]; exact List.mem_cons_self)
    match a, ha with
    | 0, _ => rfl
    | 1, _ => exact this.symm
    | a + 2, ha => exact absurd ha (by show ¬ a + 2 < 2; omega), by
    have := f.nle
    show na.length + 0 ≤ 12
    omega, by
    have := f.fle
    show fl.length + 0 ≤ 6
    omega⟩
section
variable {L : Int} {na fl : List (Int × Int)} {d : Int → Int → Int} (T : Tm 2 (onep L na fl) d)
include T
theorem sp_ok {a : Int} (a0 : 0 ≤ a) (a1 : a ≤ L) : okP 2 (onep L na fl) (sp1 L a) := ok_nm T (i := 0) (by decide) (by show (0 : Int) < ((1 : Nat) : Int); decide) a0 a1
theorem sp_d {a b : Int} (a0 : 0 ≤ a) (a1 : a ≤ L) (b0 : 0 ≤ b) (b1 : b ≤ L) : Dp (onep L na fl) d (sp1 L a) (sp1 L b) = ab a b := nm_dist T (i := 0) (by decide) (by show (0 : Int) < ((1 : Nat) : Int); decide) a0 a1 b0 b1
theorem sp_inj {a b : Int} (a0 : 0 ≤ a) (a1 : a ≤ L) (b0 : 0 ≤ b) (b1 : b ≤ L) (h : sp1 L a = sp1 L b) : a = b := nm_inj T (i := 0) (by decide) (by show (0 : Int) < ((1 : Nat) : Int); decide) a0 a1 b0 b1 h
theorem sp_of {z : Pl} (h : okP 2 (onep L na fl) z) (L1 : 1 ≤ L) : ∃ a, 0 ≤ a ∧ a ≤ L ∧ z = sp1 L a := by
  rcases ok_cases h with ⟨r, rfl, r0, r1⟩ | ⟨i, a, rfl, i0, i1, a0, a1⟩
  · by_cases e : r = 0
    · exact ⟨0, Int.le_refl _, by omega, by rw [e]; rfl⟩
    · refine ⟨L, by omega, Int.le_refl _, ?_⟩
      have : r = 1 := by omega
      rw [this]
      unfold sp1
      rw [if_neg (by omega), if_pos rfl]
  · have ei : i = 0 := by
      have : i < ((1 : Nat) : Int) := i1
      omega
    subst ei
    have al : a ≤ L - 1 := a1
    exact ⟨a, by omega, by omega, by unfold sp1; rw [if_neg (by omega), if_neg (by omega)]⟩
theorem sp_at {a b y : Int} (a0 : 0 ≤ a) (a1 : a ≤ L) (b0 : 0 ≤ b) (b1 : b ≤ L) (y0 : 0 ≤ y) (y1 : y ≤ ab a b) : At 2 (onep L na fl) d (sp1 L a) (sp1 L b) (sp1 L (if a < b then a + y else a - y)) y := by
  unfold ab at y1
  by_cases h : a < b
  · rw [if_pos h] at y1
    rw [if_pos h]
    refine ⟨sp_ok T (by omega) (by omega), ?_, ?_⟩
    · rw [sp_d T a0 a1 (by omega) (by omega)]; unfold ab; split <;> omega
    · rw [sp_d T (by omega) (by omega) b0 b1, sp_d T a0 a1 b0 b1]; unfold ab; rw [if_pos h]; split <;> omega
  · rw [if_neg h] at y1
    rw [if_neg h]
    refine ⟨sp_ok T (by omega) (by omega), ?_, ?_⟩
    · rw [sp_d T a0 a1 (by omega) (by omega)]; unfold ab; split <;> omega
    · rw [sp_d T (by omega) (by omega) b0 b1, sp_d T a0 a1 b0 b1]; unfold ab; rw [if_neg h]; split <;> omega
/-! where something on a row lies -/
theorem at_sp {a b c y : Int} (a0 : 0 ≤ a) (a1 : a ≤ L) (b0 : 0 ≤ b) (b1 : b ≤ L) (c0 : 0 ≤ c) (c1 : c ≤ L) (h : At 2 (onep L na fl) d (sp1 L a) (sp1 L b) (sp1 L c) y) : ab a c = y ∧ ab c b = ab a b - y := by
  obtain ⟨_, h1, h2⟩ := h
  rw [sp_d T a0 a1 c0 c1] at h1
  rw [sp_d T c0 c1 b0 b1, sp_d T a0 a1 b0 b1] at h2
  exact ⟨h1, h2⟩
end
theorem one_i {L i : Int} {na fl : List (Int × Int)} (h0 : 0 ≤ i) (h1 : i < ((onep L na fl).length : Int)) : i = 0 := by
  have : i < ((1 : Nat) : Int) := h1
  omega
theorem bare_bar {L : Int} {d : Int → Int → Int} {p q : Pl} {l : Int} {kk : List (Int × Int)} {x : List Int} (h : Bar 2 (onep L [] []) d p q l kk x) : False := by
  rcases h with ⟨y, i, a, ⟨i0, i1, _, _, h⟩, _⟩ | ⟨y, w, num, ah, sz, ⟨i, a, i0, i1, m, _⟩, _⟩
  · cases one_i i0 i1
    rcases h with ⟨m, _⟩ | ⟨m, _⟩ <;> cases m
  · cases one_i i0 i1
    cases m
section
variable {L l : Int} {na fl : List (Int × Int)} {d : Int → Int → Int} (T : Tm 2 (onep L na fl) d) (l1 : 1 ≤ l)
include T l1
theorem ahd_fw {t m : Int} (t0 : 0 ≤ t) (m1 : 1 ≤ m) (h : t + l + m ≤ L) : Ahd (onep L na fl) d l 1 (sd1 L t l) (sp1 L (t + l + m)) ∧ Dp (onep L na fl) d (endP 1 (sd1 L t l)) (sp1 L (t + l + m)) = m := by
  have e1 : Dp (onep L na fl) d (sp1 L (t + l)) (sp1 L (t + l + m)) = m := by
    rw [sp_d T (by omega) (by omega) (by omega) (by omega)]; unfold ab; split <;> omega
  have e2 : Dp (onep L na fl) d (sp1 L t) (sp1 L (t + l + m)) = l + m := by
    rw [sp_d T (by omega) (by omega) (by omega) (by omega)]; unfold ab; split <;> omega
  refine ⟨⟨?_, ?_⟩, e1⟩
  · show Dp (onep L na fl) d (sp1 L (t + l)) _ ≠ 0
    rw [e1]; omega
  · show Dp (onep L na fl) d (sp1 L t) _ = l + Dp (onep L na fl) d (sp1 L (t + l)) _
    rw [e1, e2]
theorem ahd_bw {t m : Int} (m1 : 1 ≤ m) (h0 : m ≤ t) (h : t + l ≤ L) : Ahd (onep L na fl) d l 0 (sd1 L t l) (sp1 L (t - m)) ∧ Dp (onep L na fl) d (endP 0 (sd1 L t l)) (sp1 L (t - m)) = m := by
  have e1 : Dp (onep L na fl) d (sp1 L t) (sp1 L (t - m)) = m := by
    rw [sp_d T (by omega) (by omega) (by omega) (by omega)]; unfold ab; split <;> omega
  have e2 : Dp (onep L na fl) d (sp1 L (t + l)) (sp1 L (t - m)) = l + m := by
    rw [sp_d T (by omega) (by omega) (by omega) (by omega)]; unfold ab; split <;> omega
  refine ⟨⟨?_, ?_⟩, e1⟩
  · show Dp (onep L na fl) d (sp1 L t) _ ≠ 0
    rw [e1]; omega
  · show Dp (onep L na fl) d (sp1 L (t + l)) _ = l + Dp (onep L na fl) d (sp1 L t) _
    rw [e1, e2]
theorem drg_fw {t m : Int} {y : Pl} (t0 : 0 ≤ t) (m1 : 1 ≤ m) (h : t + l + m ≤ L) (ha : At 2 (onep L na fl) d (endP (1 - 1) (sd1 L t l)) (sp1 L (t + l + m)) y m) : withE 1 (sp1 L (t + l + m)) y = sd1 L (t + m) l := by
  have h1 := sp_at T (a := t) (b := t + l + m) (y := m) t0 (by omega) (by omega) h (by omega) (by unfold ab; split <;> omega)
  rw [if_pos (show t < t + l + m by omega)] at h1
  have ha' : At 2 (onep L na fl) d (sp1 L t) (sp1 L (t + l + m)) y m := ha
  have e := ha'.same T (sp_ok T t0 (by omega)) (sp_ok T (by omega) h) h1
  show (y, sp1 L (t + l + m)) = (sp1 L (t + m), sp1 L (t + m + l))
  rw [e, show t + l + m = t + m + l by omega]
theorem drg_bw {t m : Int} {y : Pl} (m1 : 1 ≤ m) (h0 : m ≤ t) (h : t + l ≤ L) (ha : At 2 (onep L na fl) d (endP (1 - 0) (sd1 L t l)) (sp1 L (t - m)) y m) : withE 0 (sp1 L (t - m)) y = sd1 L (t - m) l := by
  have h1 := sp_at T (a := t + l) (b := t - m) (y := m) (by omega) h (by omega) (by omega) (by omega) (by unfold ab; split <;> omega)
  rw [if_neg (show ¬ t + l < t - m by omega)] at h1
  have ha' : At 2 (onep L na fl) d (sp1 L (t + l)) (sp1 L (t - m)) y m := ha
  have e := ha'.same T (sp_ok T (by omega) h) (sp_ok T (by omega) (by omega)) h1
  show (sp1 L (t - m), y) = (sp1 L (t - m), sp1 L (t - m + l))
  rw [e, show t + l - m = t - m + l by omega]
end
/-! a flap and a narrow place -/
section
variable {L l : Int} {d : Int → Int → Int} (l1 : 1 ≤ l) (l2 : l ≤ L - 2)
include l1 l2
theorem flap_fw {c wy : Int} (c0 : 0 ≤ c) (c1 : c ≤ L - 1) (T : Tm 2 (onep L [] [(c, wy)]) d) (hw : wy = 1 ∨ wy = -1) (x : List Int) : LBar 2 (onep L [] [(c, wy)]) d l [] 1 (sd1 L 0 l) (sp1 L L) x ↔ wy = -1 ∧ x = [max 0 (c - l), 0, 0, c] := by
  have dz : Dp (onep L [] [(c, wy)]) d (endP 1 (sd1 L 0 l)) (sp1 L L) = L - l := by
    show Dp _ d (sp1 L (0 + l)) (sp1 L L) = _
    rw [sp_d T (by omega) (by omega) (by omega) (by omega)]; unfold ab; split <;> omega
  unfold LBar
  rw [dz]
  constructor
  · rintro ⟨⟨y, i, a, ⟨i0, i1, a0, a1, h⟩, rfl⟩ | ⟨y, w, num, ah, sz, ⟨i, a, i0, i1, m, _⟩, _⟩, h0, h1⟩
    · cases one_i i0 i1
      have a1' : a < L := a1
      rcases h with ⟨m, h2, h3⟩ | ⟨m, h2, h3⟩
      · cases List.mem_singleton.mp (show (a, -1) ∈ [(c, wy)] from m)
        have h2' := at_sp T (a := 0) (b := L) (c := c) (by omega) (by omega) (by omega) (by omega) c0 (by omega) h2
        have : y = c := by unfold ab at h2'; split at h2' <;> omega
        rw [this]
        exact ⟨rfl, rfl⟩
      · cases List.mem_singleton.mp (show (a, 1) ∈ [(c, wy)] from m)
        have h2' := at_sp T (a := 0) (b := L) (c := c + 1) (by omega) (by omega) (by omega) (by omega) (by omega) (by omega) h2
        have h3' := at_sp T (a := 0) (b := L) (c := c) (by omega) (by omega) (by omega) (by omega) c0 (by omega) h3
        have e1 := h2'.1
        have e2 := h3'.1
        unfold ab at e1 e2
        split at e1 <;> split at e2 <;> omega
    · cases one_i i0 i1
      cases m
  · rintro ⟨rfl, rfl⟩
    refine ⟨.inl ⟨c, 0, c, ⟨by decide, by show (0 : Int) < ((1 : Nat) : Int); decide, c0, by show c < L; omega, .inl ⟨List.mem_cons_self, ?_, ?_⟩⟩, rfl⟩, ?_, ?_⟩
    · have := sp_at T (a := 0) (b := L) (y := c) (by omega) (by omega) (by omega) (by omega) c0 (by unfold ab; split <;> omega)
      rw [if_pos (show (0 : Int) < L by omega), Int.zero_add] at this
      exact this
    · have := sp_at T (a := 0) (b := L) (y := c + 1) (by omega) (by omega) (by omega) (by omega) (by omega) (by unfold ab; split <;> omega)
      rw [if_pos (show (0 : Int) < L by omega), Int.zero_add] at this
      exact this
    · show 0 ≤ max 0 (c - l)
      omega
    · show max 0 (c - l) < L - l
      omega
theorem flap_bw {c wy : Int} (c0 : 0 ≤ c) (c1 : c ≤ L - 1) (T : Tm 2 (onep L [] [(c, wy)]) d) (hw : wy = 1 ∨ wy = -1) (x : List Int) : LBar 2 (onep L [] [(c, wy)]) d l [] 0 (sd1 L (L - l) l) (sp1 L 0) x ↔ wy = 1 ∧ x = [max 0 (L - c - 1 - l), 0, 0, c] := by
  have dz : Dp (onep L [] [(c, wy)]) d (endP 0 (sd1 L (L - l) l)) (sp1 L 0) = L - l := by
    show Dp _ d (sp1 L (L - l)) (sp1 L 0) = _
    rw [sp_d T (by omega) (by omega) (by omega) (by omega)]; unfold ab; split <;> omega
  have eh : endP (1 - 0) (sd1 L (L - l) l) = sp1 L L := by
    show sp1 L (L - l + l) = _
    rw [show L - l + l = L by omega]
  unfold LBar
  rw [dz, eh]
  constructor
  · rintro ⟨⟨y, i, a, ⟨i0, i1, a0, a1, h⟩, rfl⟩ | ⟨y, w, num, ah, sz, ⟨i, a, i0, i1, m, _⟩, _⟩, h0, h1⟩
    · cases one_i i0 i1
      have a1' : a < L := a1
      rcases h with ⟨m, h2, h3⟩ | ⟨m, h2, h3⟩
      · cases List.mem_singleton.mp (show (a, -1) ∈ [(c, wy)] from m)
        have h2' := at_sp T (a := L) (b := 0) (c := c) (by omega) (by omega) (by omega) (by omega) c0 (by omega) h2
        have h3' := at_sp T (a := L) (b := 0) (c := c + 1) (by omega) (by omega) (by omega) (by omega) (by omega) (by omega) h3
        have e1 := h2'.1
        have e2 := h3'.1
        unfold ab at e1 e2
        split at e1 <;> split at e2 <;> omega
      · cases List.mem_singleton.mp (show (a, 1) ∈ [(c, wy)] from m)
        have h2' := at_sp T (a := L) (b := 0) (c := c + 1) (by omega) (by omega) (by omega) (by omega) (by omega) (by omega) h2
        have e1 := h2'.1
        have : y = L - c - 1 := by unfold ab at e1; split at e1 <;> omega
        rw [this]
        exact ⟨rfl, rfl⟩
    · cases one_i i0 i1
      cases m
  · rintro ⟨rfl, rfl⟩
    refine ⟨.inl ⟨L - c - 1, 0, c, ⟨by decide, by show (0 : Int) < ((1 : Nat) : Int); decide, c0, by show c < L; omega, .inr ⟨List.mem_cons_self, ?_, ?_⟩⟩, rfl⟩, ?_, ?_⟩
    · have := sp_at T (a := L) (b := 0) (y := L - c - 1) (by omega) (by omega) (by omega) (by omega) (by omega) (by unfold ab; split <;> omega)
      rw [if_neg (show ¬ L < (0 : Int) by omega), show L - (L - c - 1) = c + 1 by omega] at this
      exact this
    · have := sp_at T (a := L) (b := 0) (y := L - c - 1 + 1) (by omega) (by omega) (by omega) (by omega) (by omega) (by unfold ab; split <;> omega)
      rw [if_neg (show ¬ L < (0 : Int) by omega), show L - (L - c - 1 + 1) = c by omega] at this
      exact this
    · show 0 ≤ max 0 (L - c - 1 - l)
      omega
    · show max 0 (L - c - 1 - l) < L - l
      omega
theorem nar_fw {wd sz : Int} (T : Tm 2 (onep L [(L - 1, wd)] []) d) (x : List Int) : LBar 2 (onep L [(L - 1, wd)] []) d l [(0, sz)] 1 (sd1 L 0 l) (sp1 L L) x ↔ wd < sz ∧ x = [L - 1 - 1 - l, 1, 0] := by
  have dz : Dp (onep L [(L - 1, wd)] []) d (endP 1 (sd1 L 0 l)) (sp1 L L) = L - l := by
    show Dp _ d (sp1 L (0 + l)) (sp1 L L) = _
    rw [sp_d T (by omega) (by omega) (by omega) (by omega)]; unfold ab; split <;> omega
  have kf : kfb l 1 [(0, sz)] = [(l, sz)] := by
    show [(l - 0, sz)] = _
    rw [Int.sub_zero]
  have e1 : sp1 L (L - 1) = [0, L - 1] := by unfold sp1; rw [if_neg (by omega), if_neg (by omega)]
  unfold LBar
  rw [dz, kf]
  constructor
  · rintro ⟨⟨y, i, a, ⟨i0, i1, a0, a1, h⟩, rfl⟩ | ⟨y, w, num, ah, sz', ⟨i, a, i0, i1, m, h⟩, gk, lt, rfl⟩, h0, h1⟩
    · cases one_i i0 i1
      rcases h with ⟨m, _⟩ | ⟨m, _⟩ <;> cases m
    · cases one_i i0 i1
      cases List.mem_singleton.mp (show (a, w) ∈ [(L - 1, wd)] from m)
      rw [← e1] at h
      have h' := (at_sp T (a := 0) (b := L) (c := L - 1) (by omega) (by omega) (by omega) (by omega) (by omega) (by omega) h).1
      have ey : y = L - 1 := by unfold ab at h'; split at h' <;> omega
      match num, gk with
      | 0, gk =>
        cases gk
        rw [ey]
        exact ⟨lt, rfl⟩
      | k + 1, gk => cases gk
  · rintro ⟨lt, rfl⟩
    refine ⟨.inr ⟨L - 1, wd, 0, l, sz, ⟨0, L - 1, by decide, by show (0 : Int) < ((1 : Nat) : Int); decide, List.mem_cons_self, ?_⟩, rfl, lt, rfl⟩, ?_, ?_⟩
    · have := sp_at T (a := 0) (b := L) (y := L - 1) (by omega) (by omega) (by omega) (by omega) (by omega) (by unfold ab; split <;> omega)
      rw [if_pos (show (0 : Int) < L by omega), Int.zero_add, e1] at this
      exact this
    · show 0 ≤ L - 1 - 1 - l
      omega
    · show L - 1 - 1 - l < L - l
      omega
end
/-! the runs -/
theorem RunsL.none {ps : List Pi} {l : Int} {ks : List (Int × Int)} {e : Int} {w : Pl × Pl} {r : List (List Int)} {c : List Int} {rs : List Run} (h : RunsL ps l ks e w r c [] rs) : rs = [] := by
  have := h.few
  exact List.length_eq_zero_iff.mp (by simpa using this)
theorem RunsL.one {ps : List Pi} {l : Int} {ks : List (Int × Int)} {e : Int} {w : Pl × Pl} {r : List (List Int)} {c y : List Int} {ls : List (List Int)} {rs : List Run} (h : RunsL ps l ks e w r c ls rs) (el : ls = [y]) : ∃ k, RunR ps l ks e (ledOn r c y) y w k ∧ ((k ≤ 0 ∧ rs = []) ∨ (0 < k ∧ rs = [runA ps e (ledOn r c y) y k])) := by
  cases h with
  | nil => cases el
  | skip h rk k0 =>
    rename_i ls' x k
    obtain ⟨e1, e2⟩ := List.append_inj' (s₂ := []) (t₂ := [y]) el rfl
    subst e1
    cases e2
    exact ⟨k, rk, .inl ⟨k0, h.none⟩⟩
  | go h rk k0 =>
    rename_i ls' rs' x k
    obtain ⟨e1, e2⟩ := List.append_inj' (s₂ := []) (t₂ := [y]) el rfl
    subst e1
    cases e2
    exact ⟨k, rk, .inr ⟨k0, by rw [h.none]; rfl⟩⟩
theorem leads_room1 {L : Int} {na fl : List (Int × Int)} {b f r : Int} : leadsL (onep L na fl) 0 b f [r] = [] := by
  have e : leadsL (onep L na fl) 0 b f [r] = ((doorsTo (onep L na fl) r 1).filter fun w => decide (w.getD 0 0 ≠ 0)).map fun w => [w.getD 0 0, w.getD 1 0, w.getD 3 0] := if_neg (by simp)
  rw [e]
  have : ((doorsTo (onep L na fl) r 1).filter fun w => decide (w.getD 0 0 ≠ 0)) = [] := by
    refine List.filter_eq_nil_iff.mpr fun w m => ?_
    obtain ⟨j, jl, h⟩ := mem_doors.mp m
    have : j = 0 := by omega
    subst this
    rcases h with ⟨_, rfl⟩ | ⟨_, rfl⟩ <;> simp
  rw [this]; rfl
section
variable {L l : Int} {d : Int → Int → Int} (T : Tm 2 (onep L [] []) d) (l1 : 1 ≤ l) (l2 : l ≤ L - 1)
include T l1 l2
/-! the row of a stand is one piece -/
theorem row_one {a b : Int} (a0 : 0 ≤ a) (a1 : a ≤ L) (b0 : 0 ≤ b) (b1 : b ≤ L) {r : List (List Int)} {i u f : Int} (ch : Chn (onep L [] []) (sp1 L a) (r ++ [[i, u, f]]) (sp1 L b)) (ht : ptot (r ++ [[i, u, f]]) = Dp (onep L [] []) d (sp1 L a) (sp1 L b)) (nz : ∀ c ∈ r ++ [[i, u, f]], c.getD 1 0 ≠ c.getD 2 0) (rm : ∀ c ∈ r, c.getD 2 0 = 0 ∨ c.getD 2 0 = (pr (onep L [] []) (c.getD 0 0)).l) : r = [] ∧ i = 0 ∧ u = a ∧ f = b := by
  have okb := sp_ok T b0 b1
  have oka := sp_ok T a0 a1
  have pcs := chn_pcs ch
  have one : ∀ c ∈ r ++ [[i, u, f]], ∃ u f, c = [0, u, f] ∧ 0 ≤ u ∧ u ≤ L ∧ 0 ≤ f ∧ f ≤ L := fun c m => by
    obtain ⟨j, u, f, rfl, j0, j1, u0, u1, f0, f1⟩ := pcs c m
    cases one_i j0 j1
    exact ⟨u, f, rfl, u0, u1, f0, f1⟩
  have er : r = [] := by
    cases r with
    | nil => rfl
    | cons c r =>
      exfalso
      obtain ⟨u1, f1, rfl, u10, u11, f10, f11⟩ := one c List.mem_cons_self
      have n1 : u1 ≠ f1 := nz [0, u1, f1] List.mem_cons_self
      have rf : f1 = 0 ∨ f1 = L := rm [0, u1, f1] List.mem_cons_self
      obtain ⟨u2, f2, e2, u20, u21, f20, f21⟩ := one [i, u, f] (List.mem_append_right _ List.mem_cons_self)
      cases e2
      have n2 : u ≠ f := nz [0, u, f] (List.mem_append_right _ List.mem_cons_self)
      have h1 := chn_at T ch okb ht (j := 0) (i := 0) (b := u1) (e := f1) (k := ab u1 f1) rfl (by unfold ab; split <;> omega) (Int.le_refl _)
      have h2 := chn_at T ch okb ht (j := 0) (i := 0) (b := u1) (e := f1) (k := 0) rfl (Int.le_refl _) (by unfold ab; split <;> omega)
      have p1 : pat [0, u1, f1] (ab u1 f1) = f1 := by
        show (if u1 < f1 then u1 + ab u1 f1 else u1 - ab u1 f1) = f1
        unfold ab; split <;> omega
      rw [p1] at h1
      have pk : ptot ((([0, u1, f1] :: r) ++ [[0, u, f]]).take 0) = 0 := rfl
      rw [pk, Int.zero_add] at h1 h2
      have h1' := at_sp T a0 a1 b0 b1 f10 f11 h1
      have l3 := chn_at T ch okb ht (j := r.length + 1) (i := 0) (b := u) (e := f) (k := 0) (by
        show (([0, u1, f1] :: r) ++ [[0, u, f]])[r.length + 1]? = _
        rw [List.getElem?_append_right (by simp)]; simp) (Int.le_refl _) (by unfold ab; split <;> omega)
      have pp : pat [0, u, f] 0 = u := by
        show (if u < f then u + 0 else u - 0) = u
        split <;> omega
      rw [pp] at l3
      have l3' := at_sp T a0 a1 b0 b1 u20 u21 l3
      have pt : ptot ((([0, u1, f1] :: r) ++ [[0, u, f]]).take (r.length + 1)) + ab u f = ab a b := by
        have e3 : (([0, u1, f1] :: r) ++ [[0, u, f]]).take (r.length + 1) = [0, u1, f1] :: r := by
          rw [List.take_append_of_le_length (by simp)]; simp
        rw [e3]
        have e4 := ptot_snoc ([0, u1, f1] :: r) [0, u, f]
        have e5 : plen [0, u, f] = ab u f := rfl
        rw [ht, sp_d T a0 a1 b0 b1, e5] at e4
        omega
      have ppos : 1 ≤ ab u f := by unfold ab; split <;> omega
      have ppos1 : 1 ≤ ab u1 f1 := by unfold ab; split <;> omega
      have ge : ab u1 f1 ≤ ptot ((([0, u1, f1] :: r) ++ [[0, u, f]]).take (r.length + 1)) := by
        have e3 : (([0, u1, f1] :: r) ++ [[0, u, f]]).take (r.length + 1) = [0, u1, f1] :: r := by
          rw [List.take_append_of_le_length (by simp)]; simp
        rw [e3]
        have e6 : ptot ([0, u1, f1] :: r) = ab u1 f1 + ptot r := rfl
        have nn : ∀ q : List (List Int), 0 ≤ ptot q := fun q => by
          induction q with
          | nil => exact Int.le_refl 0
          | cons c q ih =>
            have := plen_nn T (c := c)
            have e7 : ptot (c :: q) = plen c + ptot q := rfl
            omega
        have := nn r
        omega
      have x1 := h1'.1
      have x2 := h1'.2
      unfold ab at x1 x2 pt ge ppos ppos1
      rcases rf with rf | rf <;> subst rf <;> (repeat' split at x1) <;> (repeat' split at x2) <;> (repeat' split at pt) <;> (repeat' split at ge) <;> (repeat' split at ppos1) <;> omega
  subst er
  have ch' : Chn (onep L [] []) (sp1 L a) [[i, u, f]] (sp1 L b) := ch
  obtain ⟨u', f', e, u0, u1, f0, f1⟩ := one [i, u, f] List.mem_cons_self
  cases e
  have h2 := chn_at T ch' okb ht (j := 0) (i := 0) (b := u) (e := f) (k := 0) rfl (Int.le_refl _) (by unfold ab; split <;> omega)
  have h1 := chn_at T ch' okb ht (j := 0) (i := 0) (b := u) (e := f) (k := ab u f) rfl (by unfold ab; split <;> omega) (Int.le_refl _)
  have p1 : pat [0, u, f] (ab u f) = f := by
    show (if u < f then u + ab u f else u - ab u f) = f
    unfold ab; split <;> omega
  have p0 : pat [0, u, f] 0 = u := by
    show (if u < f then u + 0 else u - 0) = u
    split <;> omega
  have pk : ptot (([[0, u, f]] : List (List Int)).take 0) = 0 := rfl
  rw [p1, pk, Int.zero_add] at h1
  rw [p0, pk, Int.zero_add] at h2
  have ht' : ab u f + 0 = ab a b := by rw [← sp_d T a0 a1 b0 b1, ← ht]; rfl
  have h1' := (at_sp T a0 a1 b0 b1 f0 f1 h1).2
  have h2' := (at_sp T a0 a1 b0 b1 u0 u1 h2).1
  refine ⟨rfl, rfl, ?_, ?_⟩
  · unfold ab at h2'
    split at h2' <;> omega
  · have : ab f b = 0 := by omega
    unfold ab at this
    split at this <;> omega
/-! all runs of a stand on the one pipe -/
theorem runs_hd {t : Int} (t0 : 0 ≤ t) (t1 : t + l ≤ L) {rs : List Run} (h : RunsE (onep L [] []) d l [] 1 (sd1 L t l) (sd1 L t l) rs) : (t + l < L → ∃ a b, rs = [⟨1, sd1 L (L - l) l, L - l - t, a, b⟩]) ∧ (t + l = L → rs = []) := by
  obtain ⟨r, i, u, f, ch, ht, nz, rm, hR⟩ := h
  obtain ⟨rfl, rfl, rfl, rfl⟩ := row_one T l1 l2 (a := t) (b := t + l) t0 (by omega) (by omega) t1 ch ht nz rm
  have ez : endP 1 (sd1 L u l) = sp1 L (u + l) := rfl
  rw [ez] at hR
  constructor
  · intro lt
    have e1 : sp1 L (u + l) = [0, u + l] := by unfold sp1; rw [if_neg (by omega), if_neg (by omega)]
    have e2 : leadsL (onep L [] []) 0 u (u + l) [0, u + l] = [[0, u + l, L]] := by
      have : leadsL (onep L [] []) 0 u (u + l) [0, u + l] = [[0, u + l, if u < u + l then L else 0]] := if_pos rfl
      rw [this, if_pos (by omega)]
    rw [e1] at hR
    obtain ⟨k, rk, hk⟩ := hR.one e2
    have el : ledOn [] [0, u, u + l] [0, u + l, L] = [[0, u, L]] := if_pos rfl
    rw [el] at rk hk
    have em : mostR [0, u + l, L] [0, u, L] (sd1 L u l) 1 = L - l - u := by
      have s0 : stepsTo [0, u + l, L] (endP 1 (sd1 L u l)) = 0 := by
        rw [ez, e1]
        have : stepsTo [0, u + l, L] [0, u + l] = if (u + l < u + l ∧ u + l < L) ∨ (L < u + l ∧ u + l < u + l) then ab (u + l) (u + l) else 0 := if_neg (fun h => h.elim (fun h => absurd h (by simp)) (fun h => h rfl))
        rw [this, if_neg (by omega)]
      have : mostR [0, u + l, L] [0, u, L] (sd1 L u l) 1 = min (ab (u + l) L) (ab u L) := by
        unfold mostR
        rw [s0]
        exact if_neg (fun h => absurd h.1 (by decide))
      rw [this]
      unfold ab
      split <;> split <;> omega
    obtain ⟨h1, h2, h3⟩ := rk
    have em' : mostR [0, u + l, L] (([[0, u, L]] : List (List Int)).headD []) (sd1 L u l) 1 = L - l - u := em
    rw [em'] at h1 h2 h3
    have ek : k = L - l - u := h3.elim id (fun ⟨x, hx, _⟩ => by
      obtain ⟨⟨j, c, gc, i', b', e', rfl, hb⟩, _⟩ := hx
      exfalso
      have : [i', b', e'] = [0, u, L] := by
        match j, gc with
        | 0, gc => exact (Option.some.inj gc).symm
        | j + 1, gc => cases gc
      cases this
      rcases hb with ⟨a, w, m, _⟩ | ⟨a, w, num, ah, sz, m, _⟩ <;> cases m)
    subst ek
    rcases hk with ⟨k0, _⟩ | ⟨_, rfl⟩
    · omega
    · refine ⟨cutP [0, u + l, L] (L - l - u), cutP [0, u, L] (L - l - u), ?_⟩
      have p1 : pat [0, u + l, L] (L - l - u) = L := by
        show (if u + l < L then u + l + (L - l - u) else u + l - (L - l - u)) = L
        rw [if_pos lt]; omega
      have p2 : pat [0, u, L] (L - l - u) = L - l := by
        show (if u < L then u + (L - l - u) else u - (L - l - u)) = L - l
        rw [if_pos (by omega)]; omega
      show [(⟨1, (nm (onep L [] []) 0 (pat [0, u, L] (L - l - u)), nm (onep L [] []) 0 (pat [0, u + l, L] (L - l - u))), L - l - u, _, _⟩ : Run)] = [⟨1, (sp1 L (L - l), sp1 L (L - l + l)), L - l - u, _, _⟩]
      rw [p1, p2, nm1, nm1, show L - l + l = L by omega]; rfl
  · intro e
    have e1 : sp1 L (u + l) = [1] := by unfold sp1; rw [if_neg (by omega), if_pos e]
    rw [e1, leads_room1] at hR
    exact hR.none
theorem runs_tl {t : Int} (t0 : 0 ≤ t) (t1 : t + l ≤ L) {rs : List Run} (h : RunsE (onep L [] []) d l [] 0 (sd1 L t l) (sd1 L t l) rs) : (0 < t → ∃ a b, rs = [⟨0, sd1 L 0 l, t, a, b⟩]) ∧ (t = 0 → rs = []) := by
  obtain ⟨r, i, u, f, ch, ht, nz, rm, hR⟩ := h
  obtain ⟨rfl, rfl, rfl, rfl⟩ := row_one T l1 l2 (a := t + l) (b := t) (by omega) t1 t0 (by omega) ch ht nz rm
  have ez : endP 0 (sd1 L f l) = sp1 L f := rfl
  rw [ez] at hR
  constructor
  · intro lt
    have e1 : sp1 L f = [0, f] := by unfold sp1; rw [if_neg (by omega), if_neg (by omega)]
    have e2 : leadsL (onep L [] []) 0 (f + l) f [0, f] = [[0, f, 0]] := by
      have : leadsL (onep L [] []) 0 (f + l) f [0, f] = [[0, f, if f + l < f then L else 0]] := if_pos rfl
      rw [this, if_neg (by omega)]
    rw [e1] at hR
    obtain ⟨k, rk, hk⟩ := hR.one e2
    have el : ledOn [] [0, f + l, f] [0, f, 0] = [[0, f + l, 0]] := if_pos rfl
    rw [el] at rk hk
    have em : mostR [0, f, 0] [0, f + l, 0] (sd1 L f l) 0 = f := by
      have s0 : stepsTo [0, f, 0] (endP 0 (sd1 L f l)) = 0 := by
        rw [ez, e1]
        have : stepsTo [0, f, 0] [0, f] = if (f < f ∧ f < 0) ∨ (0 < f ∧ f < f) then ab f f else 0 := if_neg (fun h => h.elim (fun h => absurd h (by simp)) (fun h => h rfl))
        rw [this, if_neg (by omega)]
      have : mostR [0, f, 0] [0, f + l, 0] (sd1 L f l) 0 = min (ab f 0) (ab (f + l) 0) := by
        unfold mostR
        rw [s0]
        exact if_neg (fun h => absurd h.1 (by decide))
      rw [this]
      unfold ab
      split <;> split <;> omega
    obtain ⟨h1, h2, h3⟩ := rk
    have em' : mostR [0, f, 0] (([[0, f + l, 0]] : List (List Int)).headD []) (sd1 L f l) 0 = f := em
    rw [em'] at h1 h2 h3
    have ek : k = f := h3.elim id (fun ⟨x, hx, _⟩ => by
      obtain ⟨⟨j, c, gc, i', b', e', rfl, hb⟩, _⟩ := hx
      exfalso
      have : [i', b', e'] = [0, f + l, 0] := by
        match j, gc with
        | 0, gc => exact (Option.some.inj gc).symm
        | j + 1, gc => cases gc
      cases this
      rcases hb with ⟨a, w, m, _⟩ | ⟨a, w, num, ah, sz, m, _⟩ <;> cases m)
    subst ek
    rcases hk with ⟨k0, _⟩ | ⟨_, rfl⟩
    · omega
    · refine ⟨cutP [0, k, 0] k, cutP [0, k + l, 0] k, ?_⟩
      have p1 : pat [0, k, 0] k = 0 := by
        show (if k < 0 then k + k else k - k) = 0
        rw [if_neg (by omega)]; omega
      have p2 : pat [0, k + l, 0] k = l := by
        show (if k + l < 0 then k + l + k else k + l - k) = l
        rw [if_neg (by omega)]; omega
      show [(⟨0, (nm (onep L [] []) 0 (pat [0, k, 0] k), nm (onep L [] []) 0 (pat [0, k + l, 0] k)), k, _, _⟩ : Run)] = [⟨0, (sp1 L 0, sp1 L (0 + l)), k, _, _⟩]
      rw [p1, p2, nm1, nm1, Int.zero_add]; rfl
  · intro e
    have e1 : sp1 L f = [0] := by unfold sp1; rw [if_pos e]
    rw [e1, leads_room1] at hR
    exact hR.none
end
/-! rows told in their order -/
open PySem PySem.Spec in
theorem leD_ends {r t : Run} (h : r.e < t.e) : leD (rowD r) (rowD t) = true := by
  unfold leD rowD
  rw [PySem.W.dataLt_tuple, PySem.W.dataLt_cons (by simp [PySem.W.alike]), PySem.W.dataLt_int]
  have e : PyData.eqv (.int t.e) (.int r.e) = false := by simp only [PyData.eqv, beq_eq_false_iff_ne]; omega
  rw [e]
  have : decide (t.e < r.e) = false := decide_eq_false (by omega)
  rw [if_neg (by decide), this]; rfl
theorem sort_two {r t : Run} (h : r.e < t.e) : sortD [rowD r, rowD t] = [rowD r, rowD t] := List.mergeSort_of_pairwise (by
  refine List.Pairwise.cons (fun y m => ?_) (List.pairwise_singleton _ _)
  rw [List.mem_singleton.mp m]
  exact leD_ends h)
theorem sort_one (r : Run) : sortD [rowD r] = [rowD r] := List.mergeSort_of_pairwise (List.pairwise_singleton _ _)
end Rw

namespace Rw
open PySem PySem.Spec PyProof.Rows L2
open PySem PySem.Spec PyProof.Rows L2
theorem in_ints {m : Nat} (ns : List Int) (h : ns.length ≤ 1000) : IN (m + 1) (tupI ns) := .tup (by rw [List.length_map]; omega) fun d hd => by
  obtain ⟨i, _, rfl⟩ := List.mem_map.mp hd
  exact .int _ _
theorem IN.more {m : Nat} {d : PyData} (h : IN m d) : IN (m + 1) d := by
  induction h with
  | non => exact .non _
  | int => exact .int _ _
  | bool => exact .bool _ _
  | str => exact .str _ _
  | tup h _ ih => exact .tup h ih
theorem sp1_len (L a : Int) : (sp1 L a).length ≤ 1000 := by unfold sp1; split <;> (try split) <;> simp
theorem in_sd {m : Nat} (L t l : Int) : IN (m + 2) (stD (sd1 L t l)) := .tup (by show 2 ≤ 100000; decide) fun d hd => by
  rcases List.mem_cons.mp hd with rfl | hd
  · exact in_ints _ (sp1_len _ _)
  · rw [List.mem_singleton.mp hd]
    exact in_ints _ (sp1_len _ _)
theorem flN_stD (s : Pl × Pl) : flN (stD s) = true := by simp [stD, flN, flNs, flN_tupI]
theorem fit_bare' {l : Int} (h1 : 1 ≤ l) (h2 : l ≤ 1000000000000) : Fit l [] [] := ⟨h1, h2, List.Pairwise.nil, fun _ m => (nomatch m), List.Pairwise.nil, fun _ m => (nomatch m), Nat.zero_le _, Nat.zero_le _⟩
section
variable {L l : Int} {na fl ks : List (Int × Int)} {d : Int → Int → Int} (T : Tm 2 (onep L na fl) d) (l1 : 1 ≤ l)
include T l1
theorem leg_fw {t m k : Int} {s' : Pl × Pl} (t0 : 0 ≤ t) (m1 : 1 ≤ m) (h : t + l + m ≤ L) (lg : LegS 2 (onep L na fl) d l ks (sd1 L t l) 1 (sp1 L (t + l + m)) s' k) : s' = sd1 L (t + m) l := by
  obtain ⟨_, _, _, _, ek, y, hy, rfl⟩ := lg
  rw [(ahd_fw T l1 t0 m1 h).2] at ek
  subst ek
  exact drg_fw T l1 t0 m1 h hy
theorem leg_bw {t m k : Int} {s' : Pl × Pl} (m1 : 1 ≤ m) (h0 : m ≤ t) (h : t + l ≤ L) (lg : LegS 2 (onep L na fl) d l ks (sd1 L t l) 0 (sp1 L (t - m)) s' k) : s' = sd1 L (t - m) l := by
  obtain ⟨_, _, _, _, ek, y, hy, rfl⟩ := lg
  rw [(ahd_bw T l1 m1 h0 h).2] at ek
  subst ek
  exact drg_bw T l1 m1 h0 h hy
end
def dueR (L l j : Int) : List Run := (if 0 < j then [⟨0, sd1 L 0 l, j, [], []⟩] else []) ++ [⟨1, sd1 L (L - l) l, L - l - j, [], []⟩]
theorem in_rows {m : Nat} (L : Int) (rs : List Run) (h : rs.length ≤ 1000) (hs : ∀ r ∈ rs, ∃ t l, r.s = sd1 L t l) : IN (m + 3) (.tuple (rs.map rowD)) := .tup (by rw [List.length_map]; omega) fun x hx => by
  obtain ⟨r, mr, rfl⟩ := List.mem_map.mp hx
  obtain ⟨t, l, e⟩ := hs r mr
  refine .tup (by show 4 ≤ 100000; decide) fun y hy => ?_
  rcases List.mem_cons.mp hy with rfl | hy
  · exact .int _ _
  rcases List.mem_cons.mp hy with rfl | hy
  · rw [e]; exact in_ints _ (sp1_len _ _)
  rcases List.mem_cons.mp hy with rfl | hy
  · rw [e]; exact in_ints _ (sp1_len _ _)
  rw [List.mem_singleton.mp hy]
  exact .int _ _
theorem halts_due {L l j : Int} {d : Int → Int → Int} (T : Tm 2 (onep L [] []) d) (l1 : 1 ≤ l) (l2 : l ≤ L - 1) (j0 : 0 ≤ j) (j1 : j + l < L) {r0 r1 : List Run} (h0 : RunsE (onep L [] []) d l [] 0 (sd1 L j l) (sd1 L j l) r0) (h1 : RunsE (onep L [] []) d l [] 1 (sd1 L j l) (sd1 L j l) r1) : sortD ((r0 ++ r1).map rowD) = (dueR L l j).map rowD := by
  obtain ⟨a, b, rfl⟩ := (runs_hd T l1 l2 j0 (by omega) h1).1 j1
  unfold dueR
  by_cases hj : 0 < j
  · obtain ⟨a', b', rfl⟩ := (runs_tl T l1 l2 j0 (by omega) h0).1 hj
    rw [if_pos hj]
    exact sort_two (r := ⟨0, sd1 L 0 l, j, a', b'⟩) (t := ⟨1, sd1 L (L - l) l, L - l - j, a, b⟩) (by show (0 : Int) < 1; decide)
  · have := (runs_tl T l1 l2 j0 (by omega) h0).2 (by omega)
    rw [if_neg hj, this]
    exact sort_one _
section
variable {P : Program} {w : World} {K : PySem.W.Frag} {mg : Str → Option Value} {base : Heap}
abbrev sSpt : Stmt := topS 77
abbrev nSpt : List Str := ["_law_length", "_law_at"]
theorem scSpt : FnScope nSpt ["_law_length", "_law_at"] (defScope sSpt) := ⟨rfl, rfl, rfl, by decide +kernel, rfl, by decide +kernel, by decide +kernel⟩
def spSpt : Sp := fun vs H Q _ => ∃ (L a : Int), vs = [.int L, .int a] ∧ 0 ≤ a ∧ a ≤ L ∧ 1 ≤ L ∧ ∀ (H' : Hp) (T : Addr), Keep [] H H' → Dt [] H' (.ref T) (tupI (sp1 L a)) → Q (.ref T) H'
theorem ok_spt (h : Has K mg "_law_spot" sSpt) (B : Blt mg) : Can P w K mg base "_law_spot" ["_law_length", "_law_at"] 1 spSpt := by
  obtain ⟨f, fd, F, g⟩ := h
  refine ⟨f, fd, F.ok (k := 0) scSpt (fun vs H Q E h => ?_) (fun cdv A outer s H vs Q E hr h => ?_), g, F.kp, F.binds fun _ _ _ _ _ _ us hl => match us, hl with | [_, _], _ => rfl⟩
  · obtain ⟨L, a, rfl, _⟩ := h
    rfl
  · obtain ⟨L, a, rfl, a0, a1, L1, q⟩ := h
    refine ⟨_, pss_cons (ps_if (pt_cmpR op_eq (pv 1) pe_int (nomark _)) (pss_one (ps_ret (pe_tup (pa_cons pe_int pa_nil)))) pss_nil)
      (pss_one (ps_ret (pe_ix ix_list (pe_lst (pa_cons (pe_tup (pa_cons pe_int (pa_cons (pv 1) pa_nil))) (pa_cons (pe_tup (pa_cons pe_int pa_nil)) pa_nil))) (pe_callTy call_int1 (by rfl) B.int_ boot_int (pa_cons (pe_cmpR op_eq (pv 1) (pv 0) (nomark _)) pa_nil)) (fun _ _ => rfl)))), ?_⟩
    refine ⟨.int a, rfl, rfl, _, rfl, ite2 (fun c => ?_) (fun c => ?_)⟩
    · have e : a = 0 := V.int.inj (of_decide_eq_true c)
      refine ⟨show 1 ≤ sizeLine by decide, fun T nT => q _ T (Keep.new nT) ?_⟩
      rw [show sp1 L a = [0] from if_pos e]
      exact .tup List.not_mem_nil upd_same (Dts.ints [0])
    have e0 : ¬ a = 0 := fun e => c (decide_eq_true (by rw [e]))
    refine ⟨.int a, rfl, show 2 ≤ sizeLine by decide, fun T1 n1 => ⟨show 1 ≤ sizeLine by decide, fun T2 n2 => ⟨show 2 ≤ sizeLine by decide, fun W nW => ⟨.int a, rfl, .int L, rfl, rfl, ?_⟩⟩⟩⟩
    have k1 : Keep [] H (upd H T1 (.tup [.int 0, .int a])) := Keep.new n1
    have k2 := Keep.new (av := []) (o := .tup [.int 1]) n2
    have k3 := Keep.new (av := []) (o := .lst [.ref T1, .ref T2]) nW
    have e1 := k3 _ _ (k2 _ _ (show (upd H T1 (.tup [.int 0, .int a])) T1 = some (.tup [.int 0, .int a]) from upd_same) List.not_mem_nil) List.not_mem_nil
    have e2 := k3 _ _ (show (upd (upd H T1 (.tup [.int 0, .int a])) T2 (.tup [.int 1])) T2 = some (.tup [.int 1]) from upd_same) List.not_mem_nil
    by_cases eL : a = L
    · rw [decide_eq_true (congrArg V.int eL)]
      refine .inr ⟨true, rfl, W, [.ref T1, .ref T2], 1, .ref T2, rfl, rfl, SqL.of upd_same, rfl, q _ T2 (k1.trans (k2.trans k3)) ?_⟩
      rw [show sp1 L a = [1] from (if_neg e0).trans (if_pos eL)]
      exact .tup List.not_mem_nil e2 (Dts.ints [1])
    · rw [decide_eq_false (fun h => eL (V.int.inj h))]
      refine .inr ⟨false, rfl, W, [.ref T1, .ref T2], 0, .ref T1, rfl, rfl, SqL.of upd_same, rfl, q _ T1 (k1.trans (k2.trans k3)) ?_⟩
      rw [show sp1 L a = [0, a] from (if_neg e0).trans (if_neg eL)]
      exact .tup List.not_mem_nil e1 (Dts.ints [0, a])
abbrev sPld : Stmt := topS 78
abbrev nPld : List Str := ["_law_house", "_law_rope", "_law_stand", "_law_end", "_law_place", "_law_found"]
theorem scPld : FnScope nPld ["_law_house", "_law_rope", "_law_stand", "_law_end", "_law_place"] (defScope sPld) := ⟨rfl, rfl, rfl, by decide +kernel, rfl, by decide +kernel, by decide +kernel⟩
structure ExmSS (K : PySem.W.Frag) (CS CT : Addr) : Prop where
  ss : PySem.W.exmOne K (.ref CS) (.ref CS) = some true
  ts : PySem.W.exmOne K (.ref CT) (.ref CS) = some false
  tt : PySem.W.exmOne K (.ref CT) (.ref CT) = some true
def spPld : Sp := fun vs H Q _ => ∃ (h v sv zv : V) (n l e : Int) (ps : List Pi) (d : Int → Int → Int) (ks : List (Int × Int)) (s : Pl × Pl) (z : Pl), vs = [h, v, sv, .int e, zv] ∧ Dt [] H h (houseD n (ps.map Pi.dat)) ∧ HouseOk n ps ∧ Tm n ps d ∧ Dt [] H v (ropeD l ks) ∧ okR l ks ∧ Dt [] H sv (stD s) ∧ okP n ps s.1 ∧ okP n ps s.2 ∧ (e = 0 ∨ e = 1) ∧ Dt [] H zv (tupI z) ∧ okP n ps z ∧ Ahd ps d l e s z ∧
  (∀ (H' : Hp) (T : Addr) (s' : Pl × Pl) (k : Int), Keep [] H H' → LegS n ps d l ks s e z s' k → Dt [] H' (.ref T) (stD s') → Q (.ref T) H') ∧
  (∀ y i a, LBar n ps d l ks e s z [y, 0, i, a] → (∀ x, LBar n ps d l ks e s z x → ¬ PySem.W.listLt x [y, 0, i, a] = true) → ∀ H', Keep [] H H' → Q (.str "shut") H') ∧
  (∀ y num, LBar n ps d l ks e s z [y, 1, num] → (∀ x, LBar n ps d l ks e s z x → ¬ PySem.W.listLt x [y, 1, num] = true) → ∀ H', Keep [] H H' → Q (.str "stuck") H')
theorem ok_pld (h : Has K mg "_law_pulled" sPld) {C CNoEnd CNoPlace CBack CShut CStuck : Addr} (B : Blt mg) (gS : mg "Shut" = some (.ref CShut)) (gT : mg "Stuck" = some (.ref CStuck)) (xm : ExmSS K CShut CStuck) (CP : CanX P w K mg base "pulled" ["house", "rope", "stand", "end", "place"] 5 (spPul C CNoEnd CNoPlace CBack CShut CStuck)) : Can P w K mg base "_law_pulled" ["_law_house", "_law_rope", "_law_stand", "_law_end", "_law_place"] 6 spPld := by
  obtain ⟨f, fd, F, g⟩ := h
  refine ⟨f, fd, F.ok (k := 5) scPld (fun vs H Q E h => ?_) (fun cdv A outer s H vs Q E hr h => ?_), g, F.kp, F.binds fun _ _ _ _ _ _ us hl => match us, hl with | [_, _, _, _, _], _ => rfl⟩
  · obtain ⟨h, v, sv, zv, n, l, e, ps, d, ks, s, z, rfl, _⟩ := h
    rfl
  · obtain ⟨h, v, sv, zv, n, l, e, ps, d, ks, s, z, rfl, hh, hk, T, dr, okr, ds, ok1, ok2, he, dz, okz, ah, qS, qH, qT⟩ := h
    refine ⟨_, pss_cons (ps_set (i := 5) scPld.nd rfl (by first | exact Or.inl rfl | exact Or.inr rfl) pe_str)
      (pss_cons (ps_try_many rfl rfl takes0 (fun W pn xe tk po => pss_one (ps_set (i := 5) scPld.nd rfl (by first | exact Or.inl rfl | exact Or.inr rfl) (pe_canT CP (hr.mono (by decide)) tk (by rfl) (pa_cons (pv 0) (pa_cons (pv 1) (pa_cons (pv 2) (pa_cons (pv 3) (pa_cons (pv 4) pa_nil))))))))
        (HdsOk.cons ⟨by rfl, by decide, .inl gS⟩ (fun a oe cls d pn hz hf => pss_one (ps_set (i := 5) scPld.nd rfl (by first | exact Or.inl rfl | exact Or.inr rfl) pe_str))
        (HdsOk.cons ⟨by rfl, by decide, .inl gT⟩ (fun a oe cls d pn hz hf => pss_one (ps_set (i := 5) scPld.nd rfl (by first | exact Or.inl rfl | exact Or.inr rfl) pe_str))
        HdsOk.nil)))
      (pss_one (ps_ret (pv 5)))), ?_⟩
    refine ⟨h, rfl, v, rfl, sv, rfl, .int e, rfl, zv, rfl, h, v, sv, .int e, zv, n, l, ps, d, ks, s, .int e, tupI z, [], [], [], rfl, hh, hk, T, dr, okr, ds, ok1, ok2, .int e, dz, rfl, nil_tr, fun c => ?_, fun _ c => ?_, fun e' z' h1 h2 h3 h4 => ?_⟩
    · exfalso
      rcases he with rfl | rfl <;> exact absurd c (by decide)
    · rw [ok_isPlace okz] at c
      cases c
    · cases h1
      cases tupI_inj h3
      refine ⟨fun na => absurd ah na, fun ya => ⟨fun x hx hl H1 k1 => ⟨fun y i a ex dx nd => ⟨true, xm.ss, fun _ a0 na => ?_, fun z => (nomatch z)⟩, fun y num ex dx nd => ⟨false, xm.ts, fun z => (nomatch z), fun _ => ⟨true, xm.tt, fun _ a0 na => ?_, fun z => (nomatch z)⟩⟩⟩, fun nb H1 v1 y k1 t1 hy dv => ?_⟩⟩
      · subst ex
        exact ⟨.str (Str.ofString "shut"), rfl, qH y i a hx hl _ (k1.trans (Keep.new nd))⟩
      · subst ex
        exact ⟨.str (Str.ofString "stuck"), rfl, qT y num hx hl _ (k1.trans (Keep.new nd))⟩
      · obtain ⟨T1, _, _, rfl, _⟩ := stD_at dv
        exact ⟨.ref T1, rfl, qS H1 T1 _ _ k1 ⟨he, okz, ya, nb, rfl, y, hy, rfl⟩ dv⟩
abbrev sTaf : Stmt := topS 79
abbrev nTaf : List Str := ["_law_house", "_law_rope", "_law_length", "_law_at", "_law_stands", "_law_k", "_law_here", "_law_there", "_law_told", "_law_due"]
theorem scTaf : FnScope nTaf ["_law_house", "_law_rope"] (defScope sTaf) := ⟨rfl, rfl, rfl, by decide +kernel, rfl, by decide +kernel, by decide +kernel⟩
def spTaf : Sp := fun vs H Q _ => ∃ (h v : V) (L l : Int) (d : Int → Int → Int), vs = [h, v] ∧ Dt [] H h (houseD 2 ((onep L [] []).map Pi.dat)) ∧ Dt [] H v (ropeD l []) ∧ Tm 2 (onep L [] []) d ∧ 3 ≤ L ∧ L ≤ 12 ∧ 1 ≤ l ∧ l ≤ L - 2 ∧ ∀ H', Keep [] H H' → Q (.bl true) H'
theorem ok_taf (h : Has K mg "_law_to_and_fro" sTaf) (B : Blt mg) (cT : ∃ t, mg "TAIL" = some (.int 0 t)) (cH : ∃ t, mg "HEAD" = some (.int 1 t)) (CSp : Can P w K mg base "_law_spot" ["_law_length", "_law_at"] 1 spSpt) (CP : Can P w K mg base "_law_pulled" ["_law_house", "_law_rope", "_law_stand", "_law_end", "_law_place"] 6 spPld) (CSa : Can P w K mg base "_law_same" ["_law_found", "_law_due"] 4 (spSameN 3)) (CH : Can P w K mg base "halts" ["house", "rope", "stand", "wish"] 5 spHal) : Can P w K mg base "_law_to_and_fro" ["_law_house", "_law_rope"] 7 spTaf := by
  obtain ⟨f, fd, F, g⟩ := h
  refine ⟨f, fd, F.ok (k := 6) scTaf (fun vs H Q E h => ?_) (fun cdv A outer s H vs Q E hr h => ?_), g, F.kp, F.binds fun _ _ _ _ _ _ us hl => match us, hl with | [_, _], _ => rfl⟩
  · obtain ⟨h, v, L, l, d, rfl, _⟩ := h
    rfl
  · obtain ⟨h, v, L, l, d, rfl, hh, dr, T, L3, L12, l1, l2, q⟩ := h
    refine ⟨_, pss_cons (ps_set (i := 2) scTaf.nd rfl (by first | exact Or.inl rfl | exact Or.inr rfl) (pe_ix ix_tup (pe_ix ix_tup (pe_ix ix_tup (pv 0) pe_int (fun _ _ => rfl)) pe_int (fun _ _ => rfl)) pe_int (fun _ _ => rfl)))
      (pss_cons (ps_setLc (i := 4) (own := [("_law_at", 3)]) (g := gName 3) (tt := tYes) rfl scTaf.nd rfl rfl (sw_true rfl rfl rfl (by decide +kernel)) (pi_range1 (by rfl) B.range_ (pa_cons (pe_op op_add (pe_op op_sub (pv 2) (pe_ix ix_tup (pv 1) pe_int (fun _ _ => rfl))) pe_int) pa_nil)) (blkOk_by (N := nTaf) (sc := defScope sTaf) (by decide +kernel)) (fun _ _ _ _ _ => (pg_name (i := 3) scTaf.nd rfl (by first | exact Or.inl rfl | exact Or.inr rfl))) (fun _ _ _ _ _ => pts_nil) (fun _ _ _ _ _ => (pe_tup (pa_cons (pe_can CSp (hr.mono (by decide)) (by rfl) (pa_cons (pv 2) (pa_cons (pv 3) pa_nil))) (pa_cons (pe_can CSp (hr.mono (by decide)) (by rfl) (pa_cons (pv 2) (pa_cons (pe_op op_add (pv 3) (pe_ix (ix_tupK (K := K) rfl) (pv 1) pe_int (fun _ _ => rfl))) pa_nil))) pa_nil)))))
      (pss_cons (ps_for PassesOwn.never rfl (pi_range1 (by rfl) B.range_ (pa_cons (pe_op op_sub (pe_callB call_len_seq (by rfl) B.len_ PySem.boot_len (pa_cons (pv 4) pa_nil)) pe_int) pa_nil)) (pg_name (i := 5) scTaf.nd rfl (by first | exact Or.inl rfl | exact Or.inr rfl))
      (pss_cons (ps_par (i := 6) (j := 7) (by rfl) scTaf.nd rfl rfl (by decide) rfl rfl (pa_cons (pe_ix ix_list (pv 4) (pv 5) (fun _ _ => rfl)) (pa_cons (pe_ix ix_list (pv 4) (pe_op op_add (pv 5) pe_int) (fun _ _ => rfl)) pa_nil)) (by rfl))
      (pss_cons (ps_set (i := 8) scTaf.nd rfl (by first | exact Or.inl rfl | exact Or.inr rfl) (pe_tup (pa_cons (pe_can CP (hr.mono (by decide)) (by rfl) (pa_cons (pv 0) (pa_cons (pv 1) (pa_cons (pv 6) (pa_cons (pe_glob (v := .int 1) rfl cH.choose_spec ⟨_, rfl⟩) (pa_cons (pe_ix ix_tup (pv 7) pe_int (fun _ _ => rfl)) pa_nil)))))) (pa_cons (pe_can CP (hr.mono (by decide)) (by rfl) (pa_cons (pv 0) (pa_cons (pv 1) (pa_cons (pv 7) (pa_cons (pe_glob (v := .int 0) rfl cT.choose_spec ⟨_, rfl⟩) (pa_cons (pe_ix ix_tup (pv 6) pe_int (fun _ _ => rfl)) pa_nil)))))) pa_nil))))
      (pss_cons (ps_if (pt_not (pt_val (pe_can CSa (hr.mono (by decide)) (by rfl) (pa_cons (pv 8) (pa_cons (pe_tup (pa_cons (pv 7) (pa_cons (pv 6) pa_nil))) pa_nil))))) (pss_one (ps_ret pe_bl)) pss_nil)
      (pss_cons (ps_set (i := 9) scTaf.nd rfl (by first | exact Or.inl rfl | exact Or.inr rfl) (pe_lst (pa_cons (pe_op op_catT (pe_op op_catT (pe_tup (pa_cons (pe_glob (v := .int 1) rfl cH.choose_spec ⟨_, rfl⟩) pa_nil)) (pe_ix ix_list (pv 4) (pe_un un_neg pe_int) (fun _ _ => rfl))) (pe_tup (pa_cons (pe_op op_sub (pe_op op_sub (pe_callB call_len_seq (by rfl) B.len_ PySem.boot_len (pa_cons (pv 4) pa_nil)) pe_int) (pv 5)) pa_nil))) pa_nil)))
      (pss_cons (ps_if (pt_cmpR op_gt (pv 5) pe_int (nomark _)) (pss_one (ps_set (i := 9) scTaf.nd rfl (by first | exact Or.inl rfl | exact Or.inr rfl) (pe_op op_cat (pe_lst (pa_cons (pe_op op_catT (pe_op op_catT (pe_tup (pa_cons (pe_glob (v := .int 0) rfl cT.choose_spec ⟨_, rfl⟩) pa_nil)) (pe_ix ix_list (pv 4) pe_int (fun _ _ => rfl))) (pe_tup (pa_cons (pv 5) pa_nil))) pa_nil)) (pv 9)))) pss_nil)
      (pss_one (ps_if (pt_not (pt_val (pe_can CSa (hr.mono (by decide)) (by rfl) (pa_cons (pe_can CH (hr.mono (by decide)) (by rfl) (pa_cons (pv 0) (pa_cons (pv 1) (pa_cons (pv 6) (pa_cons (pv 6) pa_nil))))) (pa_cons (pe_callTy call_tuple_of (by rfl) B.tuple_ boot_tuple (pa_cons (pv 9) pa_nil)) pa_nil))))) (pss_one (ps_ret pe_bl)) pss_nil))))))))
      (pss_one (ps_ret (pe_can CSa (hr.mono (by decide)) (by rfl) (pa_cons (pe_can CP (hr.mono (by decide)) (by rfl) (pa_cons (pv 0) (pa_cons (pv 1) (pa_cons (pe_ix ix_list (pv 4) pe_int (fun _ _ => rfl)) (pa_cons (pe_glob (v := .int 1) rfl cH.choose_spec ⟨_, rfl⟩) (pa_cons (pe_ix ix_tup (pe_ix ix_list (pv 4) (pe_un un_neg pe_int) (fun _ _ => rfl)) pe_int (fun _ _ => rfl)) pa_nil)))))) (pa_cons (pe_ix ix_list (pv 4) (pe_un un_neg pe_int) (fun _ _ => rfl)) pa_nil))))))), ?_⟩
    have okr : okR l [] := ⟨l1, by omega, trivial, fun _ m => (nomatch m), by decide⟩
    have hk : HouseOk 2 (onep L [] []) := (okH1 (fit_bare' (by omega) (by omega))).hk
    have okS : ∀ t : Int, 0 ≤ t → t + l ≤ L → okP 2 (onep L [] []) (sd1 L t l).1 ∧ okP 2 (onep L [] []) (sd1 L t l).2 := fun t t0 t1 => ⟨sp_ok T t0 (by omega), sp_ok T (by omega) t1⟩
    obtain ⟨ha, hs, rfl, _, eha, dhs⟩ := tup_at (show Dt [] H h (.tuple [.int 2, .tuple ((onep L [] []).map Pi.dat)]) from hh)
    rcases dhs with _ | ⟨q1, _ | ⟨q2, _ | _⟩⟩
    cases q1
    obtain ⟨pa, pvs, rfl, _, epa, dpa⟩ := tup_at q2
    rcases dpa with _ | ⟨q3, _ | _⟩
    obtain ⟨pb, ws, rfl, _, epb, dws⟩ := tup_at (show Dt [] H _ (.tuple [.int 0, .int 1, .int L, .tuple [], .tuple []]) from q3)
    rcases dws with _ | ⟨w1, _ | ⟨w2, _ | ⟨w3, _ | ⟨w4, _ | ⟨w5, _ | _⟩⟩⟩⟩⟩
    cases w1
    cases w2
    cases w3
    obtain ⟨ra, Tk, rfl, _, era, _⟩ := ropeD_at dr
    refine ⟨.ref ha, rfl, ha, _, 1, .ref pa, rfl, rfl, SqT.of eha, rfl, pa, _, 0, .ref pb, rfl, rfl, SqT.of epa, rfl, pb, _, 2, .int L, rfl, rfl, SqT.of epb, rfl, ?_⟩
    refine of_set ?_
    refine ⟨.int L, rfl, .ref ra, rfl, ra, _, 0, .int l, rfl, rfl, SqT.of era, rfl, L, l, rfl, rfl, _, 1, rfl, rfl, _, rfl, by omega, by omega, fun W nW => ?_⟩
    refine lc_range (lo := 0) (n := (L - l + 1).toNat) (fun j J => Keep [] H J ∧ ∃ us : List V, J W = some (.lst us) ∧ Dts [] J us ((List.range j).map fun t : Nat => stD (sd1 L (t : Int) l)) ∧ us.length = j)
      ⟨Keep.new nW, [], upd_same, .nil, rfl⟩ (fun j J hj p => ?_) (fun J p => ?_)
    · obtain ⟨kJ, us, eW, du, lu⟩ := p
      have hj' : (j : Int) < L - l + 1 := by omega
      refine ⟨rfl, .int L, rfl, .int (0 + (j : Int)), rfl, L, 0 + (j : Int), rfl, by omega, by omega, by omega, fun H1 T1 k1 d1 => ?_⟩
      refine ⟨.int L, rfl, .int (0 + (j : Int)), rfl, .ref ra, rfl, ra, _, 0, .int l, rfl, rfl, SqT.of ((kJ.trans k1) _ _ era List.not_mem_nil), rfl, 0 + (j : Int), l, rfl, rfl, L, 0 + (j : Int) + l, rfl, by omega, by omega, by omega, fun H2 T2 k2 d2 => ?_⟩
      refine ⟨show 2 ≤ sizeLine by decide, fun T3 n3 => ?_⟩
      have k3 : Keep [] H2 (upd H2 T3 (.tup [.ref T1, .ref T2])) := Keep.new n3
      have e3 : (upd H2 T3 (.tup [.ref T1, .ref T2])) T3 = some (.tup [.ref T1, .ref T2]) := upd_same
      have k13 := k1.trans (k2.trans k3)
      have eW3 := k13 _ _ eW List.not_mem_nil
      have d1' := d1.keep (k2.trans k3)
      have d2' := d2.keep k3
      have du3 := du.keep k13
      generalize upd H2 T3 (.tup [.ref T1, .ref T2]) = H3 at k3 e3 k13 eW3 d1' d2' du3 ⊢
      refine ⟨us, eW3, Nat.lt_of_lt_of_le (show us.length < 1000 by omega) (small1000 (by omega)), (kJ.trans k13).upd nW, us ++ [.ref T3], upd_same, ?_, by rw [List.length_append, lu]; rfl⟩
      rw [List.range_succ, List.map_append]
      have dS : Dt [] H3 (.ref T3) (stD (sd1 L (j : Int) l)) := by
        rw [Int.zero_add] at d1' d2'
        exact .tup List.not_mem_nil e3 (.cons d1' (.cons d2' .nil))
      exact (((Dts.offN eW3 _ _ du3 (flN_all _ (fun t => flN_stD _) _)).app (.cons (Dt.offN eW3 _ _ dS (flN_stD _)) .nil)).keep (Keep.put List.mem_cons_self)).any
    · obtain ⟨kJ, us, eW, du, lu⟩ := p
      have lu' : (us.length : Int) = L - l + 1 := by omega
      refine of_set ?_
      have at' : ∀ t : Int, 0 ≤ t → t + l ≤ L → ∃ v, us[t.toNat]? = some v ∧ Dt [] J v (stD (sd1 L t l)) := fun t t0 t1 => by
        obtain ⟨v, g, dv⟩ := du.get t.toNat (d := stD (sd1 L t l)) (by
          rw [List.getElem?_map, List.getElem?_range (by omega)]
          show some (stD (sd1 L ((t.toNat : Nat) : Int) l)) = _
          rw [show ((t.toNat : Nat) : Int) = t by omega])
        exact ⟨v, g, dv⟩
      refine ⟨.ref W, rfl, W, _, rfl, .inl (SqL.of eW), _, 1, rfl, rfl, _, rfl, by omega, by omega, for_range (lo := 0) (n := ((us.length : Int) - 1).toNat) (fun j σ G => ∃ s5 s6 s7 s8 s9 : Option V, σ = [some (.ref ha), some (.ref ra), some (.int L), none, some (.ref W), s5, s6, s7, s8, s9] ∧ Keep [] J G)
        ⟨_, _, _, _, _, rfl, Keep.refl _ _⟩ (fun j σ G hj z => ?_) (fun σ G z => ?_)⟩
      · obtain ⟨s5, s6, s7, s8, s9, rfl, kG⟩ := z
        have hj' : (j : Int) + l + 1 ≤ L := by omega
        obtain ⟨v1, g1, dv1⟩ := at' (j : Int) (by omega) (by omega)
        obtain ⟨v2, g2, dv2⟩ := at' ((j : Int) + 1) (by omega) (by omega)
        obtain ⟨vL, gL, dvL⟩ := at' (L - l) (by omega) (by omega)
        obtain ⟨v0, g0, dv0⟩ := at' 0 (by omega) (by omega)
        obtain ⟨a1, x1, x1', rfl, _, ea1, dx1, dx1'⟩ := stD_at dv1
        obtain ⟨a2, x2, x2', rfl, _, ea2, dx2, dx2'⟩ := stD_at dv2
        obtain ⟨aL, xL, xL', rfl, _, eaL, dxL, dxL'⟩ := stD_at dvL
        obtain ⟨a0, x0, x0', rfl, _, ea0, dx0, dx0'⟩ := stD_at dv0
        have nm' : ∀ {x : Addr}, x ∉ ([] : List Addr) := List.not_mem_nil
        have kHG := kJ.trans kG
        have eWG := kG _ _ eW nm'
        refine ⟨.ref W, rfl, .int (0 + (j : Int)), rfl, W, us, 0 + (j : Int), .ref a1, rfl, rfl, SqL.of eWG, atI_of (by omega) (by rw [show 0 + (j : Int) = (j : Int) by omega]; exact g1), .ref W, rfl, .int (0 + (j : Int)), rfl, 0 + (j : Int), 1, rfl, rfl, W, us, 0 + (j : Int) + 1, .ref a2, rfl, rfl, SqL.of eWG, atI_of (by omega) (by rw [show 0 + (j : Int) + 1 = (j : Int) + 1 by omega]; exact g2), .ref a1, .ref a2, rfl, ?_⟩
        have fw := ahd_fw T l1 (t := (j : Int)) (m := 1) (by omega) (by omega) (by omega)
        rw [show (j : Int) + l + 1 = (j : Int) + 1 + l by omega] at fw
        have bw := ahd_bw T l1 (t := (j : Int) + 1) (m := 1) (by omega) (by omega) (by omega)
        rw [show (j : Int) + 1 - 1 = (j : Int) by omega] at bw
        have o1 := okS (j : Int) (by omega) (by omega)
        have o2 := okS ((j : Int) + 1) (by omega) (by omega)
        refine ⟨.ref ha, rfl, .ref ra, rfl, .ref a1, rfl, .ref a2, rfl, a2, _, 1, x2', rfl, rfl, SqT.of (kG _ _ ea2 nm'), rfl, .ref ha, .ref ra, .ref a1, x2', 2, l, 1, onep L [] [], d, [], sd1 L (j : Int) l, sp1 L ((j : Int) + 1 + l), rfl, hh.keep kHG, hk, T, dr.keep kHG, okr, dv1.keep kG, o1.1, o1.2, .inr rfl, dx2'.keep kG, o2.2, fw.1, fun H1 T1 s' k k1 leg dT1 => ?_, fun y i a lb => (bare_bar lb.1).elim, fun y num lb => (bare_bar lb.1).elim⟩
        rw [show (j : Int) + 1 + l = (j : Int) + l + 1 by omega] at leg
        have es' := leg_fw T l1 (by omega) (by omega) (by omega) leg
        subst es'
        have kG1 := kG.trans k1
        have kH1 := kHG.trans k1
        refine ⟨.ref ha, rfl, .ref ra, rfl, .ref a2, rfl, .ref a1, rfl, a1, _, 0, x1, rfl, rfl, SqT.of (kG1 _ _ ea1 nm'), rfl, .ref ha, .ref ra, .ref a2, x1, 2, l, 0, onep L [] [], d, [], sd1 L ((j : Int) + 1) l, sp1 L (j : Int), rfl, hh.keep kH1, hk, T, dr.keep kH1, okr, dv2.keep kG1, o2.1, o2.2, .inl rfl, dx1.keep kG1, o1.1, bw.1, fun H2 T2 s' k' k2 leg2 dT2 => ?_, fun y i a lb => (bare_bar lb.1).elim, fun y num lb => (bare_bar lb.1).elim⟩
        have leg2' : LegS 2 (onep L [] []) d l [] (sd1 L ((j : Int) + 1) l) 0 (sp1 L ((j : Int) + 1 - 1)) s' k' := by
          rw [show (j : Int) + 1 - 1 = (j : Int) by omega]; exact leg2
        have es2 := leg_bw T l1 (by omega) (by omega) (by omega) leg2'
        rw [show (j : Int) + 1 - 1 = (j : Int) by omega] at es2
        subst es2
        have kG2 := kG1.trans k2
        refine ⟨show 2 ≤ sizeLine by decide, fun T3 n3 => ?_⟩
        have k3 : Keep [] H2 (upd H2 T3 (.tup [.ref T1, .ref T2])) := Keep.new n3
        have d3 : Dt [] (upd H2 T3 (.tup [.ref T1, .ref T2])) (.ref T3) (.tuple [stD (sd1 L ((j : Int) + 1) l), stD (sd1 L (j : Int) l)]) := .tup nm' upd_same (.cons (dT1.keep (k2.trans k3)) (.cons (dT2.keep k3) .nil))
        generalize upd H2 T3 (.tup [.ref T1, .ref T2]) = H3 at k3 d3 ⊢
        have kG3 := kG2.trans k3
        refine ⟨.ref T3, rfl, .ref a2, rfl, .ref a1, rfl, show 2 ≤ sizeLine by decide, fun T4 n4 => ?_⟩
        have k4 : Keep [] H3 (upd H3 T4 (.tup [.ref a2, .ref a1])) := Keep.new n4
        have d4 : Dt [] (upd H3 T4 (.tup [.ref a2, .ref a1])) (.ref T4) (.tuple [stD (sd1 L ((j : Int) + 1) l), stD (sd1 L (j : Int) l)]) := .tup nm' upd_same (.cons (dv2.keep (kG3.trans k4)) (.cons (dv1.keep (kG3.trans k4)) .nil))
        have kG4 := kG3.trans k4
        have d3' := d3.keep k4
        generalize upd H3 T4 (.tup [.ref a2, .ref a1]) = H4 at k4 d4 kG4 d3' ⊢
        refine ⟨.ref T3, .ref T4, _, rfl, d3', d4, .tup (by show 2 ≤ 100000; decide) (fun x hx => by
          rcases List.mem_cons.mp hx with rfl | hx
          · exact in_sd _ _ _
          · rw [List.mem_singleton.mp hx]; exact in_sd _ _ _), fun H5 k5 => ⟨_, rfl, iteF ?_⟩⟩
        have kG5 := kG4.trans k5
        -- the rows that are due
        have eW5 := kG5 _ _ eW nm'
        refine ⟨show 1 ≤ sizeLine by decide, fun t1 m1 => ?_⟩
        have q1 : Keep [] H5 (upd H5 t1 (.tup [.int 1])) := Keep.new m1
        have f1 : (upd H5 t1 (.tup [.int 1])) t1 = some (.tup [.int 1]) := upd_same
        generalize upd H5 t1 (.tup [.int 1]) = G1 at q1 f1 ⊢
        have atL : atI us (-1) = some (.ref aL) := by
          have lp : us ≠ [] := fun h => by rw [h] at lu'; simp at lu'; omega
          have : us = us.dropLast ++ [us.getLast lp] := (List.dropLast_concat_getLast lp).symm
          have e2 : us.getLast lp = .ref aL := by
            have h1 := List.getLast?_eq_getElem? (l := us)
            rw [List.getLast?_eq_some_getLast lp] at h1
            have h2 : us.length - 1 = (L - l).toNat := by omega
            rw [h2, gL] at h1
            exact Option.some.inj h1
          rw [this, e2]
          exact atI_last _ _
        have kR1 := kG5.trans q1
        refine ⟨.ref W, rfl, 1, rfl, W, us, -1, .ref aL, rfl, rfl, SqL.of (q1 _ _ eW5 nm'), atL, t1, aL, [.int 1], [xL, xL'], rfl, rfl, SqT.of f1, SqT.of (kR1 _ _ eaL nm'), by simp, (by show 1 + 2 ≤ sizeLine; decide), fun h => (by cases h), fun _ t2 m2 => ?_⟩
        have q2 := Keep.new (av := []) (o := .tup ([.int 1] ++ [xL, xL'])) m2
        have f2 : (upd G1 t2 (.tup ([.int 1] ++ [xL, xL']))) t2 = some (.tup [.int 1, xL, xL']) := upd_same
        generalize upd G1 t2 (.tup ([.int 1] ++ [xL, xL'])) = G2 at q2 f2 ⊢
        have kR2 := kR1.trans q2
        refine ⟨.ref W, rfl, W, us, rfl, .inl (SqL.of (kR2 _ _ eW nm')), _, 1, rfl, rfl, .int (0 + (j : Int)), rfl, _, _, rfl, rfl, show 1 ≤ sizeLine by decide, fun t3 m3 => ?_⟩
        have q3 := Keep.new (av := []) (o := .tup [.int ((us.length : Int) - 1 - (0 + (j : Int)))]) m3
        have f3 : (upd G2 t3 (.tup [.int ((us.length : Int) - 1 - (0 + (j : Int)))])) t3 = some (.tup [.int ((us.length : Int) - 1 - (0 + (j : Int)))]) := upd_same
        generalize upd G2 t3 (.tup [.int ((us.length : Int) - 1 - (0 + (j : Int)))]) = G3 at q3 f3 ⊢
        have kR3 := kR2.trans q3
        refine ⟨t2, t3, [.int 1, xL, xL'], [.int ((us.length : Int) - 1 - (0 + (j : Int)))], rfl, rfl, SqT.of (q3 _ _ f2 nm'), SqT.of f3, by simp, (by show 3 + 1 ≤ sizeLine; decide), fun h => (by cases h), fun _ t4 m4 => ?_⟩
        have q4 := Keep.new (av := []) (o := .tup ([.int 1, xL, xL'] ++ [.int ((us.length : Int) - 1 - (0 + (j : Int)))])) m4
        have f4 : (upd G3 t4 (.tup ([.int 1, xL, xL'] ++ [.int ((us.length : Int) - 1 - (0 + (j : Int)))]))) t4 = some (.tup [.int 1, xL, xL', .int ((us.length : Int) - 1 - (0 + (j : Int)))]) := upd_same
        generalize upd G3 t4 (.tup ([.int 1, xL, xL'] ++ [.int ((us.length : Int) - 1 - (0 + (j : Int)))])) = G4 at q4 f4 ⊢
        have kR4 := kR3.trans q4
        refine ⟨show 1 ≤ sizeLine by decide, fun Ld m5 => ?_⟩
        have q5 := Keep.new (av := []) (o := .lst [.ref t4]) m5
        have f5 : (upd G4 Ld (.lst [.ref t4])) Ld = some (.lst [.ref t4]) := upd_same
        have f4' := q5 _ _ f4 nm'
        generalize upd G4 Ld (.lst [.ref t4]) = G5 at q5 f5 f4' ⊢
        have kR5 := kR4.trans q5
        have lj : (us.length : Int) - 1 - (0 + (j : Int)) = L - l - (j : Int) := by omega
        rw [lj] at f4'
        have dh : Dts [] G5 [.ref t4] ([⟨1, sd1 L (L - l) l, L - l - (j : Int), [], []⟩].map rowD) := .cons (.tup nm' f4' (.cons (.int 1) (.cons (dxL.keep kR5) (.cons (dxL'.keep kR5) (.cons (.int _) .nil))))) .nil
        refine of_set ?_
        refine seq_ifS (fun σ2 M => ∃ (Ld : Addr) (dv : List V) (s8 : Option V), σ2 = [some (.ref ha), some (.ref ra), some (.int L), none, some (.ref W), some (.int (0 + (j : Int))), some (.ref a1), some (.ref a2), s8, some (.ref Ld)] ∧ Keep [] J M ∧ M Ld = some (.lst dv) ∧ Dts [] M dv ((dueR L l (j : Int)).map rowD)) (fun σ2 M hM => ?_) (fun second => ?_)
        rotate_left
        · refine ⟨.int (0 + (j : Int)), rfl, _, 0, rfl, rfl, _, rfl, ite2 (fun c => ?_) (fun c => ?_)⟩
          · have c' : 0 < 0 + (j : Int) := of_decide_eq_true c
            refine ⟨show 1 ≤ sizeLine by decide, fun t5 m6 => ?_⟩
            have q6 := Keep.new (av := []) (o := .tup [.int 0]) m6
            have f6 : (upd G5 t5 (.tup [.int 0])) t5 = some (.tup [.int 0]) := upd_same
            generalize upd G5 t5 (.tup [.int 0]) = G6 at q6 f6 ⊢
            have kR6 := kR5.trans q6
            refine ⟨.ref W, rfl, W, us, 0, .ref a0, rfl, rfl, SqL.of (kR6 _ _ eW nm'), atI_of (by omega) g0, t5, a0, [.int 0], [x0, x0'], rfl, rfl, SqT.of f6, SqT.of (kR6 _ _ ea0 nm'), by simp, (by show 1 + 2 ≤ sizeLine; decide), fun h => (by cases h), fun _ t6 m7 => ?_⟩
            have q7 := Keep.new (av := []) (o := .tup ([.int 0] ++ [x0, x0'])) m7
            have f7 : (upd G6 t6 (.tup ([.int 0] ++ [x0, x0']))) t6 = some (.tup [.int 0, x0, x0']) := upd_same
            generalize upd G6 t6 (.tup ([.int 0] ++ [x0, x0'])) = G7 at q7 f7 ⊢
            have kR7 := kR6.trans q7
            refine ⟨.int (0 + (j : Int)), rfl, show 1 ≤ sizeLine by decide, fun t7 m8 => ?_⟩
            have q8 := Keep.new (av := []) (o := .tup [.int (0 + (j : Int))]) m8
            have f8 : (upd G7 t7 (.tup [.int (0 + (j : Int))])) t7 = some (.tup [.int (0 + (j : Int))]) := upd_same
            generalize upd G7 t7 (.tup [.int (0 + (j : Int))]) = G8 at q8 f8 ⊢
            have kR8 := kR7.trans q8
            refine ⟨t6, t7, [.int 0, x0, x0'], [.int (0 + (j : Int))], rfl, rfl, SqT.of (q8 _ _ f7 nm'), SqT.of f8, by simp, (by show 3 + 1 ≤ sizeLine; decide), fun h => (by cases h), fun _ t8 m9 => ?_⟩
            have q9 := Keep.new (av := []) (o := .tup ([.int 0, x0, x0'] ++ [.int (0 + (j : Int))])) m9
            have f9 : (upd G8 t8 (.tup ([.int 0, x0, x0'] ++ [.int (0 + (j : Int))]))) t8 = some (.tup [.int 0, x0, x0', .int (0 + (j : Int))]) := upd_same
            generalize upd G8 t8 (.tup ([.int 0, x0, x0'] ++ [.int (0 + (j : Int))])) = G9 at q9 f9 ⊢
            have kR9 := kR8.trans q9
            refine ⟨show 1 ≤ sizeLine by decide, fun L2 m10 => ?_⟩
            have q10 := Keep.new (av := []) (o := .lst [.ref t8]) m10
            have f10 : (upd G9 L2 (.lst [.ref t8])) L2 = some (.lst [.ref t8]) := upd_same
            have f9' := q10 _ _ f9 nm'
            generalize upd G9 L2 (.lst [.ref t8]) = G10 at q10 f10 f9' ⊢
            have q510 := q6.trans (q7.trans (q8.trans (q9.trans q10)))
            refine ⟨.ref Ld, rfl, L2, Ld, _, _, rfl, rfl, f10, q510 _ _ f5 nm', (by show 1 + 1 ≤ sizeLine; decide), fun L3 m11 => ?_⟩
            have q11 := Keep.new (av := []) (o := .lst ([.ref t8] ++ [.ref t4])) m11
            have kR11 := (kR9.trans q10).trans q11
            refine second _ _ ⟨L3, _, _, rfl, kR11, upd_same, ?_⟩
            have e0 : dueR L l (j : Int) = [⟨0, sd1 L 0 l, (j : Int), [], []⟩] ++ [⟨1, sd1 L (L - l) l, L - l - (j : Int), [], []⟩] := by
              unfold dueR; rw [if_pos (by omega)]
            rw [e0, List.map_append]
            refine Dts.app (.cons (.tup nm' (q11 _ _ f9' nm') (.cons (.int 0) (.cons (dx0.keep kR11) (.cons (dx0'.keep kR11) (.cons ?_ .nil))))) .nil) (dh.keep (q510.trans q11))
            rw [show 0 + (j : Int) = (j : Int) by omega]
            exact .int _
          · have c' : ¬ 0 < 0 + (j : Int) := fun h => c (decide_eq_true h)
            refine second _ _ ⟨Ld, _, _, rfl, kR5, f5, ?_⟩
            have e0 : dueR L l (j : Int) = [⟨1, sd1 L (L - l) l, L - l - (j : Int), [], []⟩] := by
              unfold dueR; rw [if_neg (by omega)]; rfl
            rw [e0]; exact dh
        · obtain ⟨Le, dv, s8', rfl, kM, eLe, dLe⟩ := hM
          have kHM := kJ.trans kM
          refine ⟨.ref ha, rfl, .ref ra, rfl, .ref a1, rfl, .ref a1, rfl, .ref ha, .ref ra, .ref a1, .ref a1, 2, l, onep L [] [], d, [], sd1 L (j : Int) l, sd1 L (j : Int) l, rfl, hh.keep kHM, hk, T, dr.keep kHM, by decide, dv1.keep kM, o1.1, o1.2, fun h => ?_, dv1.keep kM, o1.1, o1.2, fun H6 T6 us6 r0 r1 k6 e6 d6 hr0 hr1 => ?_⟩
          · have := sp_inj T (a := (j : Int)) (b := (j : Int) + l) (by omega) (by omega) (by omega) (by omega) h
            omega
          rw [halts_due T l1 (by omega) (by omega) (by omega) hr0 hr1] at d6
          refine ⟨.ref Le, rfl, Le, dv, rfl, .inl ⟨SqL.of (k6 _ _ eLe nm'), fun T7 n7 => ?_⟩⟩
          have k7 : Keep [] H6 (upd H6 T7 (.tup dv)) := Keep.new n7
          refine ⟨.ref T6, .ref T7, .tuple ((dueR L l (j : Int)).map rowD), rfl, .tup nm' (k7 _ _ e6 nm') (d6.keep k7), .tup nm' upd_same (dLe.keep (k6.trans k7)), in_rows L _ (by unfold dueR; split <;> simp) (fun r mr => ?_), fun H8 k8 => ⟨_, rfl, iteF ?_⟩⟩
          · unfold dueR at mr
            rcases List.mem_append.mp mr with m | m
            · split at m
              · rw [List.mem_singleton.mp m]; exact ⟨_, _, rfl⟩
              · cases m
            · rw [List.mem_singleton.mp m]; exact ⟨_, _, rfl⟩
          exact ⟨_, _, _, _, _, rfl, kM.trans (k6.trans (k7.trans k8))⟩
      · obtain ⟨s5, s6, s7, s8, s9, rfl, kG⟩ := z
        obtain ⟨vL, gL, dvL⟩ := at' (L - l) (by omega) (by omega)
        obtain ⟨v0, g0, dv0⟩ := at' 0 (by omega) (by omega)
        obtain ⟨aL, xL, xL', rfl, _, eaL, dxL, dxL'⟩ := stD_at dvL
        obtain ⟨a0, x0, x0', rfl, _, ea0, dx0, dx0'⟩ := stD_at dv0
        have nm' : ∀ {x : Addr}, x ∉ ([] : List Addr) := List.not_mem_nil
        have kHG := kJ.trans kG
        have eWG := kG _ _ eW nm'
        have atL : atI us (-1) = some (.ref aL) := by
          have lp : us ≠ [] := fun h => by rw [h] at lu'; simp at lu'; omega
          have : us = us.dropLast ++ [us.getLast lp] := (List.dropLast_concat_getLast lp).symm
          have e2 : us.getLast lp = .ref aL := by
            have h1 := List.getLast?_eq_getElem? (l := us)
            rw [List.getLast?_eq_some_getLast lp] at h1
            have h2 : us.length - 1 = (L - l).toNat := by omega
            rw [h2, gL] at h1
            exact Option.some.inj h1
          rw [this, e2]
          exact atI_last _ _
        have fw := ahd_fw T l1 (t := 0) (m := L - l) (by omega) (by omega) (by omega)
        have ez : sp1 L (0 + l + (L - l)) = sp1 L (L - l + l) := by rw [show 0 + l + (L - l) = L - l + l by omega]
        have o0 := okS 0 (by omega) (by omega)
        have oL := okS (L - l) (by omega) (by omega)
        refine ⟨.ref ha, rfl, .ref ra, rfl, .ref W, rfl, W, us, 0, .ref a0, rfl, rfl, SqL.of eWG, atI_of (by omega) g0, .ref W, rfl, 1, rfl, W, us, -1, .ref aL, rfl, rfl, SqL.of eWG, atL, aL, _, 1, xL', rfl, rfl, SqT.of (kG _ _ eaL nm'), rfl, .ref ha, .ref ra, .ref a0, xL', 2, l, 1, onep L [] [], d, [], sd1 L 0 l, sp1 L (L - l + l), rfl, hh.keep kHG, hk, T, dr.keep kHG, okr, dv0.keep kG, o0.1, o0.2, .inr rfl, dxL'.keep kG, oL.2, by rw [← ez]; exact fw.1, fun H1 T1 s' k k1 leg dT1 => ?_, fun y i a lb => (bare_bar lb.1).elim, fun y num lb => (bare_bar lb.1).elim⟩
        rw [← ez] at leg
        have es' := leg_fw T l1 (by omega) (by omega) (by omega) leg
        rw [show 0 + (L - l) = L - l by omega] at es'
        subst es'
        refine ⟨.ref W, rfl, 1, rfl, W, us, -1, .ref aL, rfl, rfl, SqL.of (k1 _ _ eWG nm'), atL, .ref T1, .ref aL, _, rfl, dT1, dvL.keep (kG.trans k1), in_sd _ _ _, fun H5 k5 => q _ (kHG.trans (k1.trans k5))⟩
end
end Rw

namespace Rw
open PySem PySem.Spec PyProof.Rows L2
open PySem PySem.Spec PyProof.Rows L2
theorem tp {H : Hp} {vs : List V} {ds : List PyData} {T : Addr} (d : Dts [] H vs ds) (n : H T = none) : Keep [] H (upd H T (.tup vs)) ∧ Dt [] (upd H T (.tup vs)) (.ref T) (.tuple ds) := ⟨Keep.new n, .tup List.not_mem_nil upd_same (d.keep (Keep.new n))⟩
theorem fit_flap {L c wy : Int} (L1 : 1 ≤ L) (L2 : L ≤ 1000000000000) (c0 : 0 ≤ c) (c1 : c ≤ L - 1) (hw : wy = 1 ∨ wy = -1) : Fit L [] [(c, wy)] := ⟨L1, L2, List.Pairwise.nil, fun _ m => (nomatch m), List.pairwise_singleton _ _, fun p m => by rw [List.mem_singleton.mp m]; exact ⟨c0, c1, hw⟩, Nat.zero_le _, by show 1 ≤ 4; decide⟩
theorem fit_nar {L wd : Int} (L1 : 2 ≤ L) (L2 : L ≤ 1000000000000) (w1 : 1 ≤ wd) (w2 : wd ≤ 3) : Fit L [(L - 1, wd)] [] := ⟨by omega, L2, List.pairwise_singleton _ _, fun p m => by rw [List.mem_singleton.mp m]; exact ⟨by show 1 ≤ L - 1; omega, Int.le_refl _, w1, by show wd ≤ 1000000; omega⟩, List.Pairwise.nil, fun _ m => (nomatch m), by show 1 ≤ 3; decide, Nat.zero_le _⟩
theorem okR0 {l : Int} (l1 : 1 ≤ l) (l2 : l ≤ 1000) : okR l [] := ⟨l1, by omega, trivial, fun _ m => (nomatch m), by decide⟩
theorem okR1 {l sz : Int} (l1 : 1 ≤ l) (l2 : l ≤ 1000) (s1 : 1 ≤ sz) (s2 : sz ≤ 1000) : okR l [(0, sz)] := ⟨l1, by omega, ⟨Int.le_refl 0, by show (0 : Int) ≤ l; omega, trivial⟩, fun k m => by rw [List.mem_singleton.mp m]; exact ⟨s1, by show sz ≤ 1000000; omega⟩, by show 1 ≤ 4; decide⟩
theorem sp1_L {L : Int} (h : 1 ≤ L) : sp1 L L = [1] := by unfold sp1; rw [if_neg (by omega), if_pos rfl]
theorem lst_irr (x : List Int) : ¬ PySem.W.listLt x x = true := by
  induction x with
  | nil => decide
  | cons a x ih =>
    have : PySem.W.listLt (a :: x) (a :: x) = if a = a then PySem.W.listLt x x else PySem.W.DatumOrd.lt a a := rfl
    rw [this, if_pos rfl]; exact ih
section
variable {L l : Int} (L3 : 3 ≤ L) (L12 : L ≤ 12) (l1 : 1 ≤ l) (l2 : l ≤ L - 2)
include L3 L12 l1 l2
theorem use_fw {H : Hp} {Q : VK} {E : XK} {hv rv sv zv : V} {c wy : Int} (c0 : 0 ≤ c) (c1 : c ≤ L - 1) (hw : wy = 1 ∨ wy = -1) (dh : Dt [] H hv (houseD 2 ((onep L [] [(c, wy)]).map Pi.dat))) (dr : Dt [] H rv (ropeD l [])) (ds : Dt [] H sv (stD (sd1 L 0 l))) (dz : Dt [] H zv (tupI [1]))
    (q : ∀ M x, Keep [] H M → Dt [] M x (if wy = 1 then stD (sd1 L (L - l) l) else .str "shut") → Q x M) : spPld [hv, rv, sv, .int 1, zv] H Q E := by
  have ok := okH1 (fit_flap (by omega) (by omega) c0 c1 hw)
  obtain ⟨d, T⟩ := ok.tree
  have fw := ahd_fw T l1 (t := 0) (m := L - l) (by omega) (by omega) (by omega)
  have ez : sp1 L (0 + l + (L - l)) = sp1 L L := by rw [show 0 + l + (L - l) = L by omega]
  rw [ez] at fw
  refine ⟨hv, rv, sv, zv, 2, l, 1, _, d, [], sd1 L 0 l, sp1 L L, rfl, dh, ok.hk, T, dr, okR0 l1 (by omega), ds, sp_ok T (a := 0) (by omega) (by omega), sp_ok T (a := 0 + l) (by omega) (by omega), .inr rfl, by rw [sp1_L (by omega)]; exact dz, sp_ok T (by omega) (by omega), fw.1, fun M T1 s' k kM leg dT => ?_, fun y i a lb _ M kM => ?_, fun y num lb => ?_⟩
  · rcases hw with rfl | rfl
    · rw [← ez] at leg
      have e := leg_fw T l1 (by omega) (by omega) (by omega) leg
      rw [Int.zero_add] at e
      subst e
      exact q M _ kM (by rw [if_pos rfl]; exact dT)
    · exact absurd ((flap_fw l1 l2 c0 c1 T (.inr rfl) _).mpr ⟨rfl, rfl⟩) (leg.2.2.2.1 _)
  · have := ((flap_fw l1 l2 c0 c1 T hw _).mp lb).1
    subst this
    exact q M _ kM (by rw [if_neg (by decide)]; exact .str _)
  · have := ((flap_fw l1 l2 c0 c1 T hw _).mp lb).2
    cases this
theorem use_bw {H : Hp} {Q : VK} {E : XK} {hv rv sv zv : V} {c wy : Int} (c0 : 0 ≤ c) (c1 : c ≤ L - 1) (hw : wy = 1 ∨ wy = -1) (dh : Dt [] H hv (houseD 2 ((onep L [] [(c, wy)]).map Pi.dat))) (dr : Dt [] H rv (ropeD l [])) (ds : Dt [] H sv (stD (sd1 L (L - l) l))) (dz : Dt [] H zv (tupI [0]))
    (q : ∀ M x, Keep [] H M → Dt [] M x (if wy = 1 then .str "shut" else stD (sd1 L 0 l)) → Q x M) : spPld [hv, rv, sv, .int 0, zv] H Q E := by
  have ok := okH1 (fit_flap (by omega) (by omega) c0 c1 hw)
  obtain ⟨d, T⟩ := ok.tree
  have bw := ahd_bw T l1 (t := L - l) (m := L - l) (by omega) (by omega) (by omega)
  have ez : sp1 L (L - l - (L - l)) = sp1 L 0 := by rw [show L - l - (L - l) = 0 by omega]
  rw [ez] at bw
  refine ⟨hv, rv, sv, zv, 2, l, 0, _, d, [], sd1 L (L - l) l, sp1 L 0, rfl, dh, ok.hk, T, dr, okR0 l1 (by omega), ds, sp_ok T (a := L - l) (by omega) (by omega), sp_ok T (a := L - l + l) (by omega) (by omega), .inl rfl, dz, sp_ok T (by omega) (by omega), bw.1, fun M T1 s' k kM leg dT => ?_, fun y i a lb _ M kM => ?_, fun y num lb => ?_⟩
  · rcases hw with rfl | rfl
    · exact absurd ((flap_bw l1 l2 c0 c1 T (.inl rfl) _).mpr ⟨rfl, rfl⟩) (leg.2.2.2.1 _)
    · rw [← ez] at leg
      have e := leg_bw T l1 (by omega) (by omega) (by omega) leg
      rw [show L - l - (L - l) = 0 by omega] at e
      subst e
      exact q M _ kM (by rw [if_neg (by decide)]; exact dT)
  · have := ((flap_bw l1 l2 c0 c1 T hw _).mp lb).1
    subst this
    exact q M _ kM (by rw [if_pos rfl]; exact .str _)
  · have := ((flap_bw l1 l2 c0 c1 T hw _).mp lb).2
    cases this
theorem use_nar {H : Hp} {Q : VK} {E : XK} {hv rv sv zv : V} {wd sz : Int} (w1 : 1 ≤ wd) (w2 : wd ≤ 3) (s1 : 1 ≤ sz) (s2 : sz ≤ 10) (dh : Dt [] H hv (houseD 2 ((onep L [(L - 1, wd)] []).map Pi.dat))) (dr : Dt [] H rv (ropeD l [(0, sz)])) (ds : Dt [] H sv (stD (sd1 L 0 l))) (dz : Dt [] H zv (tupI [1]))
    (q : ∀ M x, Keep [] H M → Dt [] M x (if wd < sz then .str "stuck" else stD (sd1 L (L - l) l)) → Q x M) : spPld [hv, rv, sv, .int 1, zv] H Q E := by
  have ok := okH1 (fit_nar (L := L) (by omega) (by omega) w1 w2)
  obtain ⟨d, T⟩ := ok.tree
  have fw := ahd_fw T l1 (t := 0) (m := L - l) (by omega) (by omega) (by omega)
  have ez : sp1 L (0 + l + (L - l)) = sp1 L L := by rw [show 0 + l + (L - l) = L by omega]
  rw [ez] at fw
  refine ⟨hv, rv, sv, zv, 2, l, 1, _, d, [(0, sz)], sd1 L 0 l, sp1 L L, rfl, dh, ok.hk, T, dr, okR1 l1 (by omega) s1 (by omega), ds, sp_ok T (a := 0) (by omega) (by omega), sp_ok T (a := 0 + l) (by omega) (by omega), .inr rfl, by rw [sp1_L (by omega)]; exact dz, sp_ok T (by omega) (by omega), fw.1, fun M T1 s' k kM leg dT => ?_, fun y i a lb => ?_, fun y num lb _ M kM => ?_⟩
  · by_cases c : wd < sz
    · exact absurd ((nar_fw l1 l2 T _).mpr ⟨c, rfl⟩) (leg.2.2.2.1 _)
    · rw [← ez] at leg
      have e := leg_fw T l1 (by omega) (by omega) (by omega) leg
      rw [Int.zero_add] at e
      subst e
      exact q M _ kM (by rw [if_neg c]; exact dT)
  · have := ((nar_fw l1 l2 T _).mp lb).2
    cases this
  · have := ((nar_fw l1 l2 T _).mp lb).1
    exact q M _ kM (by rw [if_pos this]; exact .str _)
end
def fnd (L l : Int) : Nat → List PyData
  | 0 => []
  | 1 => [stD (sd1 L (L - l) l), .str "shut"]
  | _ => [stD (sd1 L (L - l) l), .str "shut", .str "shut", stD (sd1 L 0 l)]
theorem fl_res (b : Prop) [Decidable b] (x y : PyData) (hx : flN x = true) (hy : flN y = true) : flN (if b then x else y) = true := by split <;> assumption
section
variable {P : Program} {w : World} {K : PySem.W.Frag} {mg : Str → Option Value} {base : Heap}
abbrev sShu : Stmt := topS 80
abbrev nShu : List Str := ["_law_length", "_law_rope", "_law_at", "_law_width", "_law_here", "_law_there", "_law_found", "_law_way", "_law_house", "_law_size"]
theorem scShu : FnScope nShu ["_law_length", "_law_rope", "_law_at", "_law_width"] (defScope sShu) := ⟨rfl, rfl, rfl, by decide +kernel, rfl, by decide +kernel, by decide +kernel⟩
def spShu : Sp := fun vs H Q _ => ∃ (L l c wd : Int), vs = [.int L, .int l, .int c, .int wd] ∧ 3 ≤ L ∧ L ≤ 12 ∧ 1 ≤ l ∧ l ≤ L - 2 ∧ 0 ≤ c ∧ c ≤ L - 1 ∧ 1 ≤ wd ∧ wd ≤ 3 ∧ ∀ H', Keep [] H H' → Q (.bl true) H'
theorem ok_shu (h : Has K mg "_law_shuts" sShu) (B : Blt mg) (cT : ∃ t, mg "TAIL" = some (.int 0 t)) (cH : ∃ t, mg "HEAD" = some (.int 1 t)) (CSp : Can P w K mg base "_law_spot" ["_law_length", "_law_at"] 1 spSpt) (CP : Can P w K mg base "_law_pulled" ["_law_house", "_law_rope", "_law_stand", "_law_end", "_law_place"] 6 spPld) (CSa : Can P w K mg base "_law_same" ["_law_found", "_law_due"] 4 (spSameN 3)) : Can P w K mg base "_law_shuts" ["_law_length", "_law_rope", "_law_at", "_law_width"] 7 spShu := by
  obtain ⟨f, fd, F, g⟩ := h
  refine ⟨f, fd, F.ok (k := 6) scShu (fun vs H Q E h => ?_) (fun cdv A outer s H vs Q E hr h => ?_), g, F.kp, F.binds fun _ _ _ _ _ _ us hl => match us, hl with | [_, _, _, _], _ => rfl⟩
  · obtain ⟨L, l, c, wd, rfl, _⟩ := h
    rfl
  · obtain ⟨L, l, c, wd, rfl, L3, L12, l1, l2, c0, c1, w1, w2, q⟩ := h
    refine ⟨_, pss_cons (ps_asg (pe_tup (pa_cons (pe_tup (pa_cons (pe_tup (pa_cons pe_int pa_nil)) (pa_cons (pe_can CSp (hr.mono (by decide)) (by rfl) (pa_cons (pv 0) (pa_cons (pv 1) pa_nil))) pa_nil))) (pa_cons (pe_tup (pa_cons (pe_can CSp (hr.mono (by decide)) (by rfl) (pa_cons (pv 0) (pa_cons (pe_op op_sub (pv 0) (pv 1)) pa_nil))) (pa_cons (pe_tup (pa_cons pe_int pa_nil)) pa_nil))) pa_nil))) (pg_tup (by rfl) (pgs_cons (pg_name (i := 4) scShu.nd rfl (by first | exact Or.inl rfl | exact Or.inr rfl)) (pgs_cons (pg_name (i := 5) scShu.nd rfl (by first | exact Or.inl rfl | exact Or.inr rfl)) pgs_nil))))
      (pss_cons (ps_set (i := 6) scShu.nd rfl (by first | exact Or.inl rfl | exact Or.inr rfl) (pe_lst pa_nil))
      (pss_cons (ps_for PassesOwn.never rfl (pi_tup (pe_tup (pa_cons pe_int (pa_cons (pe_un un_neg pe_int) pa_nil)))) (pg_name (i := 7) scShu.nd rfl (by first | exact Or.inl rfl | exact Or.inr rfl))
      (pss_cons (ps_set (i := 8) scShu.nd rfl (by first | exact Or.inl rfl | exact Or.inr rfl) (pe_tup (pa_cons pe_int (pa_cons (pe_tup (pa_cons (pe_tup (pa_cons pe_int (pa_cons pe_int (pa_cons (pv 0) (pa_cons (pe_tup pa_nil) (pa_cons (pe_tup (pa_cons (pe_tup (pa_cons (pv 2) (pa_cons (pv 7) pa_nil))) pa_nil)) pa_nil)))))) pa_nil)) pa_nil))))
      (pss_cons (ps_expr (pe_bm PySem.F.plainAttrs_list PySem.F.slot_list_append PySem.F.type_list_append mt_append (pv 6) (pa_cons (pe_can CP (hr.mono (by decide)) (by rfl) (pa_cons (pv 8) (pa_cons (pe_tup (pa_cons (pv 1) (pa_cons (pe_tup pa_nil) pa_nil))) (pa_cons (pv 4) (pa_cons (pe_glob (v := .int 1) rfl cH.choose_spec ⟨_, rfl⟩) (pa_cons (pe_tup (pa_cons pe_int pa_nil)) pa_nil)))))) pa_nil)))
      (pss_one (ps_expr (pe_bm PySem.F.plainAttrs_list PySem.F.slot_list_append PySem.F.type_list_append mt_append (pv 6) (pa_cons (pe_can CP (hr.mono (by decide)) (by rfl) (pa_cons (pv 8) (pa_cons (pe_tup (pa_cons (pv 1) (pa_cons (pe_tup pa_nil) pa_nil))) (pa_cons (pv 5) (pa_cons (pe_glob (v := .int 0) rfl cT.choose_spec ⟨_, rfl⟩) (pa_cons (pe_tup (pa_cons pe_int pa_nil)) pa_nil)))))) pa_nil)))))))
      (pss_cons (ps_if (pt_not (pt_val (pe_can CSa (hr.mono (by decide)) (by rfl) (pa_cons (pe_callTy call_tuple_of (by rfl) B.tuple_ boot_tuple (pa_cons (pv 6) pa_nil)) (pa_cons (pe_tup (pa_cons (pv 5) (pa_cons pe_str (pa_cons pe_str (pa_cons (pv 4) pa_nil))))) pa_nil))))) (pss_one (ps_ret pe_bl)) pss_nil)
      (pss_cons (ps_set (i := 8) scShu.nd rfl (by first | exact Or.inl rfl | exact Or.inr rfl) (pe_tup (pa_cons pe_int (pa_cons (pe_tup (pa_cons (pe_tup (pa_cons pe_int (pa_cons pe_int (pa_cons (pv 0) (pa_cons (pe_tup (pa_cons (pe_tup (pa_cons (pe_op op_sub (pv 0) pe_int) (pa_cons (pv 3) pa_nil))) pa_nil)) (pa_cons (pe_tup pa_nil) pa_nil)))))) pa_nil)) pa_nil))))
      (pss_cons (ps_setLc (i := 6) (own := [("_law_size", 9)]) (g := gName 9) (tt := tYes) rfl scShu.nd rfl rfl (sw_true rfl rfl rfl (by decide +kernel)) (pi_tup (pe_tup (pa_cons (pv 3) (pa_cons (pe_op op_add (pv 3) pe_int) pa_nil)))) (blkOk_by (N := nShu) (sc := defScope sShu) (by decide +kernel)) (fun _ _ _ _ _ => (pg_name (i := 9) scShu.nd rfl (by first | exact Or.inl rfl | exact Or.inr rfl))) (fun _ _ _ _ _ => pts_nil) (fun _ _ _ _ _ => (pe_can CP (hr.mono (by decide)) (by rfl) (pa_cons (pv 8) (pa_cons (pe_tup (pa_cons (pv 1) (pa_cons (pe_tup (pa_cons (pe_tup (pa_cons pe_int (pa_cons (pv 9) pa_nil))) pa_nil)) pa_nil))) (pa_cons (pv 4) (pa_cons (pe_glob (v := .int 1) rfl cH.choose_spec ⟨_, rfl⟩) (pa_cons (pe_tup (pa_cons pe_int pa_nil)) pa_nil))))))))
      (pss_one (ps_ret (pe_can CSa (hr.mono (by decide)) (by rfl) (pa_cons (pe_callTy call_tuple_of (by rfl) B.tuple_ boot_tuple (pa_cons (pv 6) pa_nil)) (pa_cons (pe_tup (pa_cons (pv 5) (pa_cons pe_str pa_nil))) pa_nil)))))))))), ?_⟩
    have nm' : ∀ {x : Addr}, x ∉ ([] : List Addr) := List.not_mem_nil
    refine ⟨show 1 ≤ sizeLine by decide, fun t1 n1 => ?_⟩
    obtain ⟨k1, d1⟩ := tp (ds := [.int 0]) (.cons (.int 0) .nil) n1
    generalize upd H t1 _ = H1 at k1 d1 ⊢
    refine ⟨.int L, rfl, .int l, rfl, L, l, rfl, by omega, by omega, by omega, fun H2 t2 k2 d2 => ?_⟩
    refine ⟨show 2 ≤ sizeLine by decide, fun t3 n3 => ?_⟩
    obtain ⟨k3, d3⟩ := tp (ds := [tupI [0], tupI (sp1 L l)]) (.cons (d1.keep k2) (.cons d2 .nil)) n3
    generalize upd H2 t3 _ = H3 at k3 d3 ⊢
    have d3 : Dt [] H3 (.ref t3) (stD (sd1 L 0 l)) := by
      have e : sd1 L 0 l = (sp1 L 0, sp1 L l) := by unfold sd1; rw [Int.zero_add]
      rw [e]; exact d3
    refine ⟨.int L, rfl, .int L, rfl, .int l, rfl, L, l, rfl, rfl, L, L - l, rfl, by omega, by omega, by omega, fun H4 t4 k4 d4 => ?_⟩
    refine ⟨show 1 ≤ sizeLine by decide, fun t5 n5 => ?_⟩
    obtain ⟨k5, d5⟩ := tp (ds := [.int 1]) (.cons (.int 1) .nil) n5
    generalize upd H4 t5 _ = H5 at k5 d5 ⊢
    refine ⟨show 2 ≤ sizeLine by decide, fun t6 n6 => ?_⟩
    obtain ⟨k6, d6⟩ := tp (ds := [tupI (sp1 L (L - l)), tupI [1]]) (.cons (d4.keep k5) (.cons d5 .nil)) n6
    generalize upd H5 t6 _ = H6 at k6 d6 ⊢
    have d6 : Dt [] H6 (.ref t6) (stD (sd1 L (L - l) l)) := by
      have e : sd1 L (L - l) l = (sp1 L (L - l), [1]) := by unfold sd1; rw [show L - l + l = L by omega, sp1_L (by omega)]
      rw [e]; exact d6
    refine ⟨show 2 ≤ sizeLine by decide, fun t7 n7 => ?_⟩
    have k7 : Keep [] H6 (upd H6 t7 (.tup [.ref t3, .ref t6])) := Keep.new n7
    have e7 : (upd H6 t7 (.tup [.ref t3, .ref t6])) t7 = some (.tup [.ref t3, .ref t6]) := upd_same
    generalize upd H6 t7 (.tup [.ref t3, .ref t6]) = H7 at k7 e7 ⊢
    refine ⟨t7, _, rfl, SqT.of e7, rfl, _, _, rfl, _, [], rfl, rfl, ?_⟩
    have dhe : Dt [] H7 (.ref t3) (stD (sd1 L 0 l)) := d3.keep (k4.trans (k5.trans (k6.trans k7)))
    have dth : Dt [] H7 (.ref t6) (stD (sd1 L (L - l) l)) := d6.keep k7
    have kH7 := k1.trans (k2.trans (k3.trans (k4.trans (k5.trans (k6.trans k7)))))
    refine ⟨show 0 ≤ sizeLine by decide, fun Lf nLf => ?_⟩
    have kF : Keep [] H7 (upd H7 Lf (.lst [])) := Keep.new nLf
    have eF : (upd H7 Lf (.lst [])) Lf = some (.lst []) := upd_same
    generalize upd H7 Lf (.lst []) = H8 at kF eF ⊢
    refine ⟨1, rfl, show 2 ≤ sizeLine by decide, fun Tw nTw => ?_⟩
    have kW : Keep [] H8 (upd H8 Tw (.tup [.int 1, .int (-1)])) := Keep.new nTw
    have eW : (upd H8 Tw (.tup [.int 1, .int (-1)])) Tw = some (.tup [.int 1, .int (-1)]) := upd_same
    have eF9 := kW _ _ eF nm'
    have nTwF : Tw ∉ [Lf] := fun m => by
      rw [List.mem_singleton.mp m, eF] at nTw
      cases nTw
    generalize upd H8 Tw (.tup [.int 1, .int (-1)]) = H9 at kW eW eF9 ⊢
    refine ⟨Tw, rfl, ⟨_, SqT.of eW⟩, for_tup (K := K) (a := Tw) (xs := [.int 1, .int (-1)]) (fun j σ G => ∃ (s7 s8 : Option V) (us : List V), σ = [some (.int L), some (.int l), some (.int c), some (.int wd), some (.ref t3), some (.ref t6), some (.ref Lf), s7, s8, none] ∧ Keep [Lf] H9 G ∧ G Lf = some (.lst us) ∧ Dts [Lf] G us (fnd L l j) ∧ us.length ≤ 2 * j)
      ⟨_, _, [], rfl, Keep.refl _ _, eF9, .nil, Nat.le_refl _⟩ (fun j σ G _ z => ?_) (fun j y σ G gy z => ?_) (fun σ G z => ?_)⟩
    · obtain ⟨_, _, _, _, kG, _⟩ := z
      exact SqT.of (kG _ _ eW nTwF)
    · obtain ⟨s7, s8, us, rfl, kG, eG, dus, lu⟩ := z
      obtain ⟨wy, rfl, hw, hj⟩ : ∃ wy : Int, y = .int wy ∧ (wy = 1 ∨ wy = -1) ∧ fnd L l (j + 1) = fnd L l j ++ [if wy = 1 then stD (sd1 L (L - l) l) else .str "shut", if wy = 1 then .str "shut" else stD (sd1 L 0 l)] := by
        match j, gy with
        | 0, gy => exact ⟨1, (Option.some.inj gy).symm, .inl rfl, rfl⟩
        | 1, gy => exact ⟨-1, (Option.some.inj gy).symm, .inr rfl, rfl⟩
        | j + 2, gy => simp at gy
      have jl : j ≤ 1 := by
        have := (List.getElem?_eq_some_iff.mp gy).1
        have : j < 2 := this
        omega
      have k7G : Keep [] H7 G := ((kF.trans kW).of.trans kG).drop nLf
      refine ⟨.int L, rfl, show 0 ≤ sizeLine by decide, fun u1 m1 => ?_⟩
      obtain ⟨q1, b1⟩ := tp (ds := []) .nil m1
      generalize upd G u1 _ = G1 at q1 b1 ⊢
      refine ⟨.int c, rfl, .int wy, rfl, show 2 ≤ sizeLine by decide, fun u2 m2 => ?_⟩
      obtain ⟨q2, b2⟩ := tp (ds := [.int c, .int wy]) (.cons (.int c) (.cons (.int wy) .nil)) m2
      generalize upd G1 u2 _ = G2 at q2 b2 ⊢
      refine ⟨show 1 ≤ sizeLine by decide, fun u3 m3 => ?_⟩
      obtain ⟨q3, b3⟩ := tp (ds := [.tuple [.int c, .int wy]]) (.cons b2 .nil) m3
      generalize upd G2 u3 _ = G3 at q3 b3 ⊢
      refine ⟨show 5 ≤ sizeLine by decide, fun u4 m4 => ?_⟩
      obtain ⟨q4, b4⟩ := tp (ds := [.int 0, .int 1, .int L, .tuple [], .tuple [.tuple [.int c, .int wy]]]) (.cons (.int 0) (.cons (.int 1) (.cons (.int L) (.cons (b1.keep (q2.trans q3)) (.cons b3 .nil))))) m4
      generalize upd G3 u4 _ = G4 at q4 b4 ⊢
      refine ⟨show 1 ≤ sizeLine by decide, fun u5 m5 => ?_⟩
      obtain ⟨q5, b5⟩ := tp (.cons b4 .nil) m5
      generalize upd G4 u5 _ = G5 at q5 b5 ⊢
      refine ⟨show 2 ≤ sizeLine by decide, fun u6 m6 => ?_⟩
      obtain ⟨q6, b6⟩ := tp (.cons (.int 2) (.cons b5 .nil)) m6
      generalize upd G5 u6 _ = G6 at q6 b6 ⊢
      have qG6 : Keep [] G G6 := q1.trans (q2.trans (q3.trans (q4.trans (q5.trans q6))))
      have dho : Dt [] G6 (.ref u6) (houseD 2 ((onep L [] [(c, wy)]).map Pi.dat)) := b6
      refine of_set ?_
      have eF6 := qG6 _ _ eG nm'
      refine ⟨.ref Lf, rfl, .inl ⟨rfl, _, SqL.of eF6⟩, .ref u6, rfl, .int l, rfl, show 0 ≤ sizeLine by decide, fun u7 m7 => ?_⟩
      obtain ⟨q7, b7⟩ := tp (ds := []) .nil m7
      generalize upd G6 u7 _ = G7 at q7 b7 ⊢
      refine ⟨show 2 ≤ sizeLine by decide, fun u8 m8 => ?_⟩
      obtain ⟨q8, b8⟩ := tp (.cons (.int l) (.cons b7 .nil)) m8
      generalize upd G7 u8 _ = G8 at q8 b8 ⊢
      refine ⟨.ref t3, rfl, show 1 ≤ sizeLine by decide, fun u9 m9 => ?_⟩
      obtain ⟨q9, b9⟩ := tp (ds := [.int 1]) (.cons (.int 1) .nil) m9
      generalize upd G8 u9 _ = G9 at q9 b9 ⊢
      have qG9 : Keep [] G G9 := qG6.trans (q7.trans (q8.trans q9))
      refine nil_go ?_
      refine use_fw L3 L12 l1 l2 c0 c1 hw (dho.keep (q7.trans (q8.trans q9))) (b8.keep q9) (dhe.keep (k7G.trans qG9)) b9 (fun M x kM dx => ?_)
      have eFM := kM _ _ (qG9 _ _ eG nm') nm'
      have qGM := qG9.trans kM
      refine ⟨Lf, us, x, rfl, rfl, eFM, small1000 (by omega), ?_⟩
      have kN : Keep [Lf] M (upd M Lf (.lst (us ++ [x]))) := Keep.put List.mem_cons_self
      have eN : (upd M Lf (.lst (us ++ [x]))) Lf = some (.lst (us ++ [x])) := upd_same
      have dN : Dts [Lf] (upd M Lf (.lst (us ++ [x]))) (us ++ [x]) (fnd L l j ++ [if wy = 1 then stD (sd1 L (L - l) l) else .str "shut"]) := (((dus.keep qGM.of).app (.cons (Dt.offN eFM _ _ dx (fl_res _ _ _ (flN_stD _) rfl)) .nil))).keep kN
      have dhoM : Dt [Lf] M (.ref u6) (houseD 2 ((onep L [] [(c, wy)]).map Pi.dat)) := Dt.offN eFM _ _ (dho.keep ((q7.trans (q8.trans q9)).trans kM)) rfl
      have dhoN := dhoM.keep kN
      have k7N : Keep [] H7 (upd M Lf (.lst (us ++ [x]))) := ((k7G.trans qGM).of.trans kN).drop nLf
      have k9N : Keep [Lf] H9 (upd M Lf (.lst (us ++ [x]))) := (kG.trans qGM.of).trans kN
      generalize upd M Lf (.lst (us ++ [x])) = N at kN eN dN dhoN k7N k9N ⊢
      refine ⟨.ref Lf, rfl, .inl ⟨rfl, _, SqL.of eN⟩, .ref u6, rfl, .int l, rfl, show 0 ≤ sizeLine by decide, fun u7 m7 => ?_⟩
      obtain ⟨q7', b7'⟩ := tp (ds := []) .nil m7
      generalize upd N u7 _ = N7 at q7' b7' ⊢
      refine ⟨show 2 ≤ sizeLine by decide, fun u8 m8 => ?_⟩
      obtain ⟨q8', b8'⟩ := tp (.cons (.int l) (.cons b7' .nil)) m8
      generalize upd N7 u8 _ = N8 at q8' b8' ⊢
      refine ⟨.ref t6, rfl, show 1 ≤ sizeLine by decide, fun u9 m9 => ?_⟩
      obtain ⟨q9', b9'⟩ := tp (ds := [.int 0]) (.cons (.int 0) .nil) m9
      generalize upd N8 u9 _ = N9 at q9' b9' ⊢
      have qN9 : Keep [] N N9 := q7'.trans (q8'.trans q9')
      refine nil_go ?_
      refine use_bw L3 L12 l1 l2 c0 c1 hw (dhoN.any.keep qN9) (b8'.keep q9') (dth.keep (k7N.trans qN9)) b9' (fun O x2 kO dx2 => ?_)
      have eFO := kO _ _ (qN9 _ _ eN nm') nm'
      have qNO := qN9.trans kO
      have l2' : (us ++ [x]).length ≤ 2 * j + 1 := by rw [List.length_append]; exact Nat.add_le_add_right lu 1
      refine ⟨Lf, us ++ [x], x2, rfl, rfl, eFO, small1000 (by omega), ?_⟩
      refine ⟨_, _, us ++ [x] ++ [x2], rfl, (k9N.trans qNO.of).trans (Keep.put List.mem_cons_self), upd_same, ?_, by rw [List.length_append]; show (us ++ [x]).length + 1 ≤ _; omega⟩
      rw [hj, show ∀ a b : PyData, fnd L l j ++ [a, b] = (fnd L l j ++ [a]) ++ [b] from fun a b => by simp]
      exact (((dN.keep qNO.of).app (.cons (Dt.offN eFO _ _ dx2 (fl_res _ _ _ rfl (flN_stD _))) .nil))).keep (Keep.put List.mem_cons_self)
    · obtain ⟨s7, s8, us, rfl, kG, eG, dus, lu⟩ := z
      have k7G : Keep [] H7 G := ((kF.trans kW).of.trans kG).drop nLf
      have dus := dus.any
      refine ⟨.ref Lf, rfl, Lf, us, rfl, .inl ⟨SqL.of eG, fun T1 m1 => ?_⟩⟩
      obtain ⟨q1, b1⟩ := tp dus m1
      generalize upd G T1 _ = G1 at q1 b1 ⊢
      refine ⟨.ref t6, rfl, .ref t3, rfl, show 4 ≤ sizeLine by decide, fun T2 m2 => ?_⟩
      obtain ⟨q2, b2⟩ := tp (ds := fnd L l 2) (.cons (dth.keep (k7G.trans q1)) (.cons (.str _) (.cons (.str _) (.cons (dhe.keep (k7G.trans q1)) .nil)))) m2
      generalize upd G1 T2 _ = G2 at q2 b2 ⊢
      refine ⟨.ref T1, .ref T2, _, rfl, b1.keep q2, b2, .tup (by show 4 ≤ 100000; decide) (fun d hd => ?_), fun G3 k3 => ⟨_, rfl, iteF ?_⟩⟩
      · rcases List.mem_cons.mp hd with rfl | hd
        · exact in_sd _ _ _
        rcases List.mem_cons.mp hd with rfl | hd
        · exact .str _ _
        rcases List.mem_cons.mp hd with rfl | hd
        · exact .str _ _
        rw [List.mem_singleton.mp hd]
        exact in_sd _ _ _
      have k7G3 := k7G.trans (q1.trans (q2.trans k3))
      refine ⟨.int L, rfl, .int L, rfl, L, 1, rfl, rfl, .int wd, rfl, show 2 ≤ sizeLine by decide, fun u2 m2 => ?_⟩
      obtain ⟨q2', c2⟩ := tp (ds := [.int (L - 1), .int wd]) (.cons (.int _) (.cons (.int wd) .nil)) m2
      generalize upd G3 u2 _ = G4 at q2' c2 ⊢
      refine ⟨show 1 ≤ sizeLine by decide, fun u3 m3 => ?_⟩
      obtain ⟨q3', c3⟩ := tp (.cons c2 .nil) m3
      generalize upd G4 u3 _ = G5 at q3' c3 ⊢
      refine ⟨show 0 ≤ sizeLine by decide, fun u4 m4 => ?_⟩
      obtain ⟨q4', c4⟩ := tp (ds := []) .nil m4
      generalize upd G5 u4 _ = G6 at q4' c4 ⊢
      refine ⟨show 5 ≤ sizeLine by decide, fun u5 m5 => ?_⟩
      obtain ⟨q5', c5⟩ := tp (.cons (.int 0) (.cons (.int 1) (.cons (.int L) (.cons (c3.keep q4') (.cons c4 .nil))))) m5
      generalize upd G6 u5 _ = G7 at q5' c5 ⊢
      refine ⟨show 1 ≤ sizeLine by decide, fun u6 m6 => ?_⟩
      obtain ⟨q6', c6⟩ := tp (.cons c5 .nil) m6
      generalize upd G7 u6 _ = G8 at q6' c6 ⊢
      refine ⟨show 2 ≤ sizeLine by decide, fun u7 m7 => ?_⟩
      obtain ⟨q7', c7⟩ := tp (.cons (.int 2) (.cons c6 .nil)) m7
      generalize upd G8 u7 _ = G9 at q7' c7 ⊢
      have dho : Dt [] G9 (.ref u7) (houseD 2 ((onep L [(L - 1, wd)] []).map Pi.dat)) := c7
      have k7G9 := k7G3.trans (q2'.trans (q3'.trans (q4'.trans (q5'.trans (q6'.trans q7')))))
      refine of_set ?_
      refine ⟨.int wd, rfl, .int wd, rfl, wd, 1, rfl, rfl, show 2 ≤ sizeLine by decide, fun Tp mp => ?_⟩
      have kP : Keep [] G9 (upd G9 Tp (.tup [.int wd, .int (wd + 1)])) := Keep.new mp
      have eP : (upd G9 Tp (.tup [.int wd, .int (wd + 1)])) Tp = some (.tup [.int wd, .int (wd + 1)]) := upd_same
      generalize upd G9 Tp (.tup [.int wd, .int (wd + 1)]) = G10 at kP eP ⊢
      refine ⟨Tp, rfl, ⟨_, SqT.of eP⟩, fun W nW => ?_⟩
      refine lc_tup (K := K) (a := Tp) (xs := [.int wd, .int (wd + 1)]) (fun t M => Keep [] G10 M ∧ ∃ us, M W = some (.lst us) ∧ Dts [] M us (([stD (sd1 L (L - l) l), .str "stuck"] : List PyData).take t) ∧ us.length ≤ t)
        ⟨Keep.new nW, [], upd_same, .nil, Nat.le_refl _⟩ (fun t M _ z => SqT.of (z.1 _ _ eP nm')) (fun t y M gy z => ?_) (fun M z => ?_)
      · obtain ⟨kM, us2, eM, dM, lM⟩ := z
        obtain ⟨sz, rfl, hs, ht, tl⟩ : ∃ sz : Int, y = .int sz ∧ (1 ≤ sz ∧ sz ≤ 10) ∧ (([stD (sd1 L (L - l) l), .str "stuck"] : List PyData).take (t + 1)) = (([stD (sd1 L (L - l) l), .str "stuck"] : List PyData).take t) ++ [if wd < sz then .str "stuck" else stD (sd1 L (L - l) l)] ∧ t ≤ 1 := by
          match t, gy with
          | 0, gy => exact ⟨wd, (Option.some.inj gy).symm, ⟨w1, by omega⟩, by rw [if_neg (by omega)]; rfl, by decide⟩
          | 1, gy => exact ⟨wd + 1, (Option.some.inj gy).symm, ⟨by omega, by omega⟩, by rw [if_pos (by omega)]; rfl, by decide⟩
          | t + 2, gy => simp at gy
        refine ⟨rfl, .ref u7, rfl, .int l, rfl, .int sz, rfl, show 2 ≤ sizeLine by decide, fun v1 m1 => ?_⟩
        obtain ⟨p1, a1⟩ := tp (ds := [.int 0, .int sz]) (.cons (.int 0) (.cons (.int sz) .nil)) m1
        generalize upd M v1 _ = M1 at p1 a1 ⊢
        refine ⟨show 1 ≤ sizeLine by decide, fun v2 m2 => ?_⟩
        obtain ⟨p2, a2⟩ := tp (.cons a1 .nil) m2
        generalize upd M1 v2 _ = M2 at p2 a2 ⊢
        refine ⟨show 2 ≤ sizeLine by decide, fun v3 m3 => ?_⟩
        obtain ⟨p3, a3⟩ := tp (.cons (.int l) (.cons a2 .nil)) m3
        generalize upd M2 v3 _ = M3 at p3 a3 ⊢
        refine ⟨.ref t3, rfl, show 1 ≤ sizeLine by decide, fun v4 m4 => ?_⟩
        obtain ⟨p4, a4⟩ := tp (ds := [.int 1]) (.cons (.int 1) .nil) m4
        generalize upd M3 v4 _ = M4 at p4 a4 ⊢
        have kM4 := p1.trans (p2.trans (p3.trans p4))
        refine nil_go ?_
        refine use_nar L3 L12 l1 l2 w1 w2 hs.1 hs.2 (dho.keep (kP.trans (kM.trans kM4))) (a3.keep p4) (dhe.keep (k7G9.trans (kP.trans (kM.trans kM4)))) a4 (fun O x kO dx => ?_)
        have eO := kO _ _ (kM4 _ _ eM nm') nm'
        refine ⟨us2, eO, Nat.lt_of_lt_of_le (show us2.length < 1000 by omega) (small1000 (by omega)), ((kM.trans kM4).trans kO).upd nW, us2 ++ [x], upd_same, ?_, by rw [List.length_append]; exact Nat.add_le_add_right lM 1⟩
        rw [ht]
        have dO := Dts.offN eO _ _ (dM.keep (kM4.trans kO)) (by
          match t, tl with
          | 0, _ => rfl
          | 1, _ => show flNs [stD (sd1 L (L - l) l)] = true; simp only [flNs, flN_stD, Bool.and_self])
        exact ((dO.app (.cons (Dt.offN eO _ _ dx (fl_res _ _ _ rfl (flN_stD _))) .nil)).keep (Keep.put List.mem_cons_self)).any
      · obtain ⟨kM, us2, eM, dM, lM⟩ := z
        refine of_set ?_
        refine ⟨.ref W, rfl, W, us2, rfl, .inl ⟨SqL.of eM, fun T3 m3 => ?_⟩⟩
        obtain ⟨p1, a1⟩ := tp (ds := [stD (sd1 L (L - l) l), .str "stuck"]) dM m3
        generalize upd M T3 _ = M1 at p1 a1 ⊢
        have kk := k7G9.trans (kP.trans (kM.trans p1))
        refine ⟨.ref t6, rfl, show 2 ≤ sizeLine by decide, fun T4 m4 => ?_⟩
        obtain ⟨p2, a2⟩ := tp (ds := [stD (sd1 L (L - l) l), .str "stuck"]) (.cons (dth.keep kk) (.cons (.str _) .nil)) m4
        refine ⟨.ref T3, .ref T4, _, rfl, a1.keep p2, a2, .tup (by show 2 ≤ 100000; decide) (fun d hd => ?_), fun G3 k3 => q _ (kH7.trans (kk.trans (p2.trans k3)))⟩
        rcases List.mem_cons.mp hd with rfl | hd
        · exact in_sd _ _ _
        rw [List.mem_singleton.mp hd]
        exact .str _ _
end
end Rw

namespace Rw
open PySem PySem.Spec PyProof.Rows L2
open PySem PySem.Spec PyProof.Rows L2
theorem tup_dp {K : PySem.W.Frag} {H : Hp} {T : Addr} {ns : List Int} (d : Dt [] H (.ref T) (.tuple (ns.map .int))) : L2.Dp K H (.ref T) (.tuple (ns.map .int)) := Dt.dp _ _ d (by simp only [PyData.canLay0, tupI_lay])
theorem eqv_ints0 (ns : List Int) : (!PyData.eqv (.tuple (ns.map .int)) (.tuple (ns.map .int))) = false := by
  have := eqv_ints ns ns
  have e : PyData.eqv (.tuple (ns.map .int)) (.tuple (ns.map .int)) = true := by simp only [PyData.eqv]; simpa using this
  rw [e]; rfl
section
variable {P : Program} {w : World} {K : PySem.W.Frag} {mg : Str → Option Value} {base : Heap}
abbrev sLaw : Stmt := topS 81
abbrev nLaw : List Str := ["_law_script", "_law_draws_here", "_law_turn", "_law_length", "_law_rope", "_law_house"]
theorem scLaw : FnScope nLaw ["_law_script"] (defScope sLaw) := ⟨rfl, rfl, rfl, by decide +kernel, rfl, by decide +kernel, by decide +kernel⟩
def spLaw (K : PySem.W.Frag) : Sp := fun vs H Q _ => ∃ (a : Addr) (ns : List Int), vs = [.ref a] ∧ SqL K H a (ns.map V.int) ∧ ns.length ≤ 63 ∧ ∀ H', Q (.bl true) H'
theorem ok_law {f : Addr} {fd : FuncData} (F : Fun K "law" "law" sLaw f fd) (B : Blt mg) (cROOMS : ∃ t, mg "ROOMS" = some (.int 16 t)) (cLONG : ∃ t, mg "LONG" = some (.int 1000000000000 t)) (cWIDE : ∃ t, mg "WIDE" = some (.int 1000000 t)) (cNARROWS : ∃ t, mg "NARROWS" = some (.int 12 t)) (cFLAPS : ∃ t, mg "FLAPS" = some (.int 6 t)) (cREACH : ∃ t, mg "REACH" = some (.int 100000000000000 t)) (cKNOTS : ∃ t, mg "KNOTS" = some (.int 4 t)) (cTAIL : ∃ t, mg "TAIL" = some (.int 0 t)) (cHEAD : ∃ t, mg "HEAD" = some (.int 1 t)) (CD : Can P w K mg base "_law_draws" ["_law_script"] 1 (spDraws K)) (CN : Can P w K mg base "_law_next" ["_law_draws_here", "_law_many"] 1 spNxt) (CSa : Can P w K mg base "_law_same" ["_law_found", "_law_due"] 4 (spSameN 3)) (CIH : Can P w K mg base "is_house" ["thing"] 6 spIH) (CIR : Can P w K mg base "is_rope" ["thing"] 4 spIRg) (CIS : Can P w K mg base "is_stand" ["house", "rope", "thing"] 6 spISd) (CSp : Can P w K mg base "_law_spot" ["_law_length", "_law_at"] 1 spSpt) (CT : Can P w K mg base "_law_to_and_fro" ["_law_house", "_law_rope"] 7 spTaf) (CSh : Can P w K mg base "_law_shuts" ["_law_length", "_law_rope", "_law_at", "_law_width"] 7 spShu) :
    (∀ (s : Shared) (u : Value), BindsTo s fd ⟨[u], []⟩ [("_law_script", u)]) ∧ AtTop P w K mg base f fd "_law_script" (spLaw K) := by
  refine ⟨?_, atTop_of (k := 8) F scLaw ⟨rfl, by decide, by decide⟩ fun cdv s H v Q hr h => ?_⟩
  · obtain ⟨oc, od, kV, doc, pm, an, cdv, ct, osl, rfl, _, _⟩ := F.ex
    exact fun s u => .of_eq rfl
  · obtain ⟨a, ns, e, hS, hl, q⟩ := h
    cases e
    have hg : callerA.guards = some [] := rfl
    refine ⟨_, PSs.nox (pss_cons (ps_set (i := 1) scLaw.nd rfl (by first | exact Or.inl rfl | exact Or.inr rfl) (pe_can CD (hr.mono (by decide)) (by rfl) (pa_cons (pv 0) pa_nil)))
      (pss_cons (ps_if (PW.pt (pw_or (pt_cmpR (op_neD hr.units) (pe_tup (pa_cons (pe_glob (v := .int 16) rfl cROOMS.choose_spec ⟨_, rfl⟩) (pa_cons (pe_glob (v := .int 1000000000000) rfl cLONG.choose_spec ⟨_, rfl⟩) (pa_cons (pe_glob (v := .int 1000000) rfl cWIDE.choose_spec ⟨_, rfl⟩) (pa_cons (pe_glob (v := .int 12) rfl cNARROWS.choose_spec ⟨_, rfl⟩) (pa_cons (pe_glob (v := .int 6) rfl cFLAPS.choose_spec ⟨_, rfl⟩) pa_nil)))))) (pe_tup (pa_cons pe_int (pa_cons (pe_op op_pow pe_int pe_int) (pa_cons (pe_op op_pow pe_int pe_int) (pa_cons pe_int (pa_cons pe_int pa_nil)))))) (nomark _)) (pw_or1 (pt_cmpR (op_neD hr.units) (pe_tup (pa_cons (pe_glob (v := .int 100000000000000) rfl cREACH.choose_spec ⟨_, rfl⟩) (pa_cons (pe_glob (v := .int 4) rfl cKNOTS.choose_spec ⟨_, rfl⟩) pa_nil))) (pe_tup (pa_cons (pe_op op_pow pe_int pe_int) (pa_cons pe_int pa_nil))) (nomark _))))) (pss_one (ps_ret pe_bl)) pss_nil)
      (pss_cons (ps_if (pt_cmpR (op_neD hr.units) (pe_tup (pa_cons (pe_glob (v := .int 0) rfl cTAIL.choose_spec ⟨_, rfl⟩) (pa_cons (pe_glob (v := .int 1) rfl cHEAD.choose_spec ⟨_, rfl⟩) pa_nil))) (pe_tup (pa_cons pe_int (pa_cons pe_int pa_nil))) (nomark _)) (pss_one (ps_ret pe_bl)) pss_nil)
      (pss_cons (ps_for PassesOwn.never rfl (pi_range1 (by rfl) B.range_ (pa_cons pe_int pa_nil)) (pg_name (i := 2) scLaw.nd rfl (by first | exact Or.inl rfl | exact Or.inr rfl))
      (pss_cons (ps_set (i := 3) scLaw.nd rfl (by first | exact Or.inl rfl | exact Or.inr rfl) (pe_op op_add pe_int (pe_can CN (hr.mono (by decide)) (by rfl) (pa_cons (pv 1) (pa_cons pe_int pa_nil)))))
      (pss_cons (ps_set (i := 4) scLaw.nd rfl (by first | exact Or.inl rfl | exact Or.inr rfl) (pe_tup (pa_cons (pe_op op_add pe_int (pe_can CN (hr.mono (by decide)) (by rfl) (pa_cons (pv 1) (pa_cons (pe_op op_sub (pv 3) pe_int) pa_nil)))) (pa_cons (pe_tup pa_nil) pa_nil))))
      (pss_cons (ps_set (i := 5) scLaw.nd rfl (by first | exact Or.inl rfl | exact Or.inr rfl) (pe_tup (pa_cons pe_int (pa_cons (pe_tup (pa_cons (pe_tup (pa_cons pe_int (pa_cons pe_int (pa_cons (pv 3) (pa_cons (pe_tup pa_nil) (pa_cons (pe_tup pa_nil) pa_nil)))))) pa_nil)) pa_nil))))
      (pss_cons (ps_if (pt_not (pt_val (pe_can CSa (hr.mono (by decide)) (by rfl) (pa_cons (pe_tup (pa_cons (pe_can CIH (hr.mono (by decide)) (by rfl) (pa_cons (pv 5) pa_nil)) (pa_cons (pe_can CIR (hr.mono (by decide)) (by rfl) (pa_cons (pv 4) pa_nil)) pa_nil))) (pa_cons (pe_tup (pa_cons pe_bl (pa_cons pe_bl pa_nil))) pa_nil))))) (pss_one (ps_ret pe_bl)) pss_nil)
      (pss_cons (ps_if (pt_not (pt_val (pe_can CSa (hr.mono (by decide)) (by rfl) (pa_cons (pe_can CIS (hr.mono (by decide)) (by rfl) (pa_cons (pv 5) (pa_cons (pv 4) (pa_cons (pe_tup (pa_cons (pe_tup (pa_cons pe_int pa_nil)) (pa_cons (pe_can CSp (hr.mono (by decide)) (by rfl) (pa_cons (pv 3) (pa_cons (pe_ix ix_tup (pv 4) pe_int (fun _ _ => rfl)) pa_nil))) pa_nil))) pa_nil)))) (pa_cons pe_bl pa_nil))))) (pss_one (ps_ret pe_bl)) pss_nil)
      (pss_one (ps_if (PW.pt (pw_or (pt_not (pt_val (pe_can CT (hr.mono (by decide)) (by rfl) (pa_cons (pv 5) (pa_cons (pv 4) pa_nil))))) (pw_or1 (pt_not (pt_val (pe_can CSh (hr.mono (by decide)) (by rfl) (pa_cons (pv 3) (pa_cons (pe_ix ix_tup (pv 4) pe_int (fun _ _ => rfl)) (pa_cons (pe_can CN (hr.mono (by decide)) (by rfl) (pa_cons (pv 1) (pa_cons (pv 3) pa_nil))) (pa_cons (pe_op op_add pe_int (pv 2)) pa_nil)))))))))) (pss_one (ps_ret pe_bl)) pss_nil))))))))
      (pss_one (ps_ret pe_bl)))))), ?_⟩
    have nm' : ∀ {x : Addr}, x ∉ ([] : List Addr) := List.not_mem_nil
    refine ⟨.ref a, rfl, a, ns, rfl, hS, hl, fun H1 D Cc R k1 fD fC fR dk => ?_⟩
    have p12 : (10 : Int) ^ Int.toNat 12 = 1000000000000 := by decide
    have p6 : (10 : Int) ^ Int.toNat 6 = 1000000 := by decide
    have p14 : (10 : Int) ^ Int.toNat 14 = 100000000000000 := by decide
    refine ⟨show 5 ≤ sizeLine by decide, fun t1 n1 => ?_⟩
    obtain ⟨q1, b1⟩ := tp (vs := [.int 16, .int 1000000000000, .int 1000000, .int 12, .int 6]) (ds := [16, 1000000000000, 1000000, 12, 6].map PyData.int) (Dts.ints [16, 1000000000000, 1000000, 12, 6]) n1
    have dk1 := dk.keep q1
    generalize upd H1 t1 _ = G1 at q1 b1 dk1 ⊢
    refine ⟨10, 12, rfl, rfl, ⟨by decide, by decide, by decide⟩, 10, 6, rfl, rfl, ⟨by decide, by decide, by decide⟩, show 5 ≤ sizeLine by decide, fun t2 n2 => ?_⟩
    obtain ⟨q2, b2⟩ := tp (vs := [.int 16, .int (10 ^ Int.toNat 12), .int (10 ^ Int.toNat 6), .int 12, .int 6]) (ds := [16, 10 ^ Int.toNat 12, 10 ^ Int.toNat 6, 12, 6].map PyData.int) (Dts.ints [16, 10 ^ Int.toNat 12, 10 ^ Int.toNat 6, 12, 6]) n2
    have dk2 := dk1.keep q2
    generalize upd G1 t2 _ = G2 at q2 b2 dk2 ⊢
    rw [p12, p6] at b2
    refine ⟨_, _, tup_dp (b1.keep q2), tup_dp b2, rfl, rfl, _, rfl, ?_⟩
    rw [eqv_ints0]
    refine iteF ?_
    refine ⟨show 2 ≤ sizeLine by decide, fun t3 n3 => ?_⟩
    obtain ⟨q3, b3⟩ := tp (vs := [.int 100000000000000, .int 4]) (ds := [100000000000000, 4].map PyData.int) (Dts.ints [100000000000000, 4]) n3
    have dk3 := dk2.keep q3
    generalize upd G2 t3 _ = G3 at q3 b3 dk3 ⊢
    refine ⟨10, 14, rfl, rfl, ⟨by decide, by decide, by decide⟩, show 2 ≤ sizeLine by decide, fun t4 n4 => ?_⟩
    obtain ⟨q4, b4⟩ := tp (vs := [.int (10 ^ Int.toNat 14), .int 4]) (ds := [10 ^ Int.toNat 14, 4].map PyData.int) (Dts.ints [10 ^ Int.toNat 14, 4]) n4
    have dk4 := dk3.keep q4
    generalize upd G3 t4 _ = G4 at q4 b4 dk4 ⊢
    rw [p14] at b4
    refine ⟨_, _, tup_dp (b3.keep q4), tup_dp b4, rfl, rfl, _, rfl, ?_⟩
    rw [eqv_ints0]
    refine iteF ?_
    refine ⟨show 2 ≤ sizeLine by decide, fun t5 n5 => ?_⟩
    obtain ⟨q5, b5⟩ := tp (vs := [.int 0, .int 1]) (ds := [0, 1].map PyData.int) (Dts.ints [0, 1]) n5
    have dk5 := dk4.keep q5
    generalize upd G4 t5 _ = G5 at q5 b5 dk5 ⊢
    refine ⟨show 2 ≤ sizeLine by decide, fun t6 n6 => ?_⟩
    obtain ⟨q6, b6⟩ := tp (vs := [.int 0, .int 1]) (ds := [0, 1].map PyData.int) (Dts.ints [0, 1]) n6
    have dk6 := dk5.keep q6
    generalize upd G5 t6 _ = G6 at q6 b6 dk6 ⊢
    refine ⟨_, _, tup_dp (b5.keep q6), tup_dp b6, rfl, rfl, _, rfl, ?_⟩
    rw [eqv_ints0]
    refine iteF ?_
    refine ⟨3, rfl, by decide, by decide, for_range (lo := 0) (n := 3) (fun i σ G => ∃ s2 s3 s4 s5 : Option V, σ = [some (.ref a), some (.ref D), s2, s3, s4, s5] ∧ Deck G D Cc R (10 * i))
      ⟨_, _, _, _, rfl, dk6.mono (by omega)⟩ (fun i σ G hi z => ?_) (fun σ G z => ?_)⟩
    rotate_left
    · exact q G
    obtain ⟨s2, s3, s4, s5, rfl, dG⟩ := z
    refine ⟨.ref D, rfl, D, Cc, R, _, 10, rfl, by decide, by decide, dG, by omega, fun M1 k c1 d1 k0 kl => ⟨3, k, rfl, rfl, ?_⟩⟩
    obtain ⟨L, hL⟩ : ∃ L, L = 3 + k := ⟨_, rfl⟩
    dsimp only
    rw [← hL]
    have L3 : 3 ≤ L := by omega
    have L12 : L ≤ 12 := by omega
    refine ⟨.ref D, rfl, .int L, rfl, L, 2, rfl, rfl, D, Cc, R, _, L - 2, rfl, by omega, by omega, d1, by omega, fun M2 m c2 d2 m0 ml => ⟨1, m, rfl, rfl, ?_⟩⟩
    obtain ⟨l, hll⟩ : ∃ l, l = 1 + m := ⟨_, rfl⟩
    dsimp only
    rw [← hll]
    have l1 : 1 ≤ l := by omega
    have l2 : l ≤ L - 2 := by omega
    refine ⟨show 0 ≤ sizeLine by decide, fun u1 m1 => ?_⟩
    obtain ⟨r1, e1⟩ := tp (ds := []) .nil m1
    have d3 := d2.keep r1
    generalize upd M2 u1 _ = M3 at r1 e1 d3 ⊢
    refine ⟨show 2 ≤ sizeLine by decide, fun u2 m2 => ?_⟩
    have r2 : Keep [] M3 (upd M3 u2 (.tup [.int l, .ref u1])) := Keep.new m2
    have eu2 : (upd M3 u2 (.tup [.int l, .ref u1])) u2 = some (.tup [.int l, .ref u1]) := upd_same
    have dro : Dt [] (upd M3 u2 (.tup [.int l, .ref u1])) (.ref u2) (ropeD l []) := .tup nm' eu2 (.cons (.int l) (.cons (e1.keep r2) .nil))
    have d4 := d3.keep r2
    generalize upd M3 u2 (.tup [.int l, .ref u1]) = M4 at r2 eu2 dro d4 ⊢
    refine ⟨.int L, rfl, show 0 ≤ sizeLine by decide, fun u3 m3 => ?_⟩
    obtain ⟨r3, e3⟩ := tp (ds := []) .nil m3
    have d5 := d4.keep r3
    generalize upd M4 u3 _ = M5 at r3 e3 d5 ⊢
    refine ⟨show 0 ≤ sizeLine by decide, fun u4 m4 => ?_⟩
    obtain ⟨r4, e4⟩ := tp (ds := []) .nil m4
    have d6 := d5.keep r4
    generalize upd M5 u4 _ = M6 at r4 e4 d6 ⊢
    refine ⟨show 5 ≤ sizeLine by decide, fun u5 m5 => ?_⟩
    obtain ⟨r5, e5⟩ := tp (.cons (.int 0) (.cons (.int 1) (.cons (.int L) (.cons (e3.keep r4) (.cons e4 .nil))))) m5
    have d7 := d6.keep r5
    generalize upd M6 u5 _ = M7 at r5 e5 d7 ⊢
    refine ⟨show 1 ≤ sizeLine by decide, fun u6 m6 => ?_⟩
    obtain ⟨r6, e6⟩ := tp (.cons e5 .nil) m6
    have d8 := d7.keep r6
    generalize upd M7 u6 _ = M8 at r6 e6 d8 ⊢
    refine ⟨show 2 ≤ sizeLine by decide, fun u7 m7 => ?_⟩
    obtain ⟨r7, e7⟩ := tp (.cons (.int 2) (.cons e6 .nil)) m7
    have d9 := d8.keep r7
    generalize upd M8 u7 _ = M9 at r7 e7 d9 ⊢
    have dho : Dt [] M9 (.ref u7) (houseD 2 ((onep L [] []).map Pi.dat)) := e7
    have kr : Keep [] M4 M9 := r3.trans (r4.trans (r5.trans (r6.trans r7)))
    have dro := dro.keep kr
    have eu2 := kr _ _ eu2 nm'
    have ok := okH1 (L := L) (fit_bare' (by omega) (by omega))
    obtain ⟨d, T⟩ := ok.tree
    refine ⟨.ref u7, rfl, .ref u7, 2, _, rfl, dho, ok, fun N1 w1 => ?_⟩
    refine ⟨.ref u2, rfl, .ref u2, _, rfl, dro.keep w1, fun N2 w2 => ?_⟩
    have eR : isRope (ropeD l []) = true := by
      show (within (.int l) 1 100000000000000 && true && true && true) = true
      have : within (.int l) 1 100000000000000 = (decide (1 ≤ l) && decide (l ≤ 100000000000000)) := rfl
      rw [this, decide_eq_true l1, decide_eq_true (by omega)]; rfl
    rw [eR]
    refine ⟨show 2 ≤ sizeLine by decide, fun v1 y1 => ?_⟩
    obtain ⟨z1, f1⟩ := tp (ds := [.bool true, .bool true]) (.cons (.bl true) (.cons (.bl true) .nil)) y1
    generalize upd N2 v1 _ = N3 at z1 f1 ⊢
    refine ⟨show 2 ≤ sizeLine by decide, fun v2 y2 => ?_⟩
    obtain ⟨z2, f2⟩ := tp (ds := [.bool true, .bool true]) (.cons (.bl true) (.cons (.bl true) .nil)) y2
    generalize upd N3 v2 _ = N4 at z2 f2 ⊢
    refine ⟨.ref v1, .ref v2, _, rfl, f1.keep z2, f2, .tup (by show 2 ≤ 100000; decide) (fun x hx => by
      rcases List.mem_cons.mp hx with rfl | hx
      · exact .bool _ _
      · rw [List.mem_singleton.mp hx]; exact .bool _ _), fun N5 w5 => ⟨_, rfl, iteF ?_⟩⟩
    have kN5 : Keep [] M9 N5 := w1.trans (w2.trans (z1.trans (z2.trans w5)))
    refine ⟨.ref u7, rfl, .ref u2, rfl, show 1 ≤ sizeLine by decide, fun v3 y3 => ?_⟩
    obtain ⟨z3, f3⟩ := tp (ds := [.int 0]) (.cons (.int 0) .nil) y3
    generalize upd N5 v3 _ = N6 at z3 f3 ⊢
    have kN6 := kN5.trans z3
    refine ⟨.int L, rfl, .ref u2, rfl, u2, _, 0, .int l, rfl, rfl, SqT.of (kN6 _ _ eu2 nm'), rfl, L, l, rfl, by omega, by omega, by omega, fun N7 v4 w7 f4 => ?_⟩
    refine ⟨show 2 ≤ sizeLine by decide, fun v5 y5 => ?_⟩
    obtain ⟨z5, f5⟩ := tp (ds := [tupI [0], tupI (sp1 L l)]) (.cons (f3.keep w7) (.cons f4 .nil)) y5
    generalize upd N7 v5 _ = N8 at z5 f5 ⊢
    have kN8 := kN6.trans (w7.trans z5)
    refine ⟨.ref u7, .ref u2, .ref v5, 2, l, onep L [] [], d, [], _, rfl, dho.keep kN8, ok.hk, T, dro.keep kN8, okR0 l1 (by omega), f5, fun N9 c w9 hc => ?_⟩
    have ec : c = true := hc.mpr ⟨sp1 L 0, sp1 L l, rfl, sp_ok T (by omega) (by omega), sp_ok T (by omega) (by omega), by rw [sp_d T (by omega) (by omega) (by omega) (by omega)]; unfold ab; rw [if_pos (by omega)]; omega, fun k m => (nomatch m)⟩
    subst ec
    refine ⟨.bl true, .bl true, .bool true, rfl, .bl true, .bl true, .bool _ _, fun N10 w10 => ⟨_, rfl, iteF ?_⟩⟩
    have kN10 := kN8.trans (w9.trans w10)
    refine ⟨.ref u7, rfl, .ref u2, rfl, .ref u7, .ref u2, L, l, d, rfl, dho.keep kN10, dro.keep kN10, T, L3, L12, l1, l2, fun N11 w11 => ⟨_, rfl, iteF ?_⟩⟩
    have kN11 := kN10.trans w11
    refine ⟨.int L, rfl, .ref u2, rfl, u2, _, 0, .int l, rfl, rfl, SqT.of (kN11 _ _ eu2 nm'), rfl, .ref D, rfl, .int L, rfl, D, Cc, R, _, L, rfl, by omega, by omega, d9.keep kN11, by omega, fun O1 c cc dc c0 cl => ?_⟩
    refine ⟨.int (0 + (i : Int)), rfl, 1, 0 + (i : Int), rfl, rfl, L, l, c, 1 + (0 + (i : Int)), rfl, L3, L12, l1, l2, c0, by omega, by omega, by omega, fun O2 o2 => ⟨_, rfl, iteF ?_⟩⟩
    exact ⟨_, _, _, _, rfl, (dc.keep o2).mono (by omega)⟩
end
end Rw

namespace Rw
open PySem PySem.Spec PyProof.Rows L2
theorem has_mk {K : PySem.W.Frag} {h : Heap} {mg : Str → Option Value} {x : Str} {st : Stmt} {f : Addr} (X : K.In h) (G : h.Ns mainGlobals mg) {od an : Option Addr} {sl : Array (Option Value)} {oc kV dc pm cd ct : Value}
    (a : PySem.W.nsIn K mainGlobals x = some (some (.ref f))) (l : K.lookup f = some ⟨oc, od, .func (PySem.W.fnOf x x (defArgs st) (defBody st) (defScope st) .none kV dc pm an cd ct), sl⟩) (c : PySem.W.codeIn K cd x = true) (k : PySem.W.keepIn K (.ref f) = true) : Has K mg x st :=
  ⟨f, _, fun_mk (st := st) l c k, PySem.W.mg_of X G a⟩
theorem cst_mk {K : PySem.W.Frag} {h : Heap} {mg : Str → Option Value} {x : Str} {i : Int} {t : Tok} (X : K.In h) (G : h.Ns mainGlobals mg) (a : PySem.W.nsIn K mainGlobals x = some (some (.int i t))) : ∃ t, mg x = some (.int i t) := ⟨t, PySem.W.mg_of X G a⟩
def HasPlan (K : PySem.W.Frag) (mg : Str → Option Value) : Prop := ∃ C f fd, Mk K C f ∧ Fun K "__init__" "Plan.__init__" sInit f fd ∧ mg "Plan" = some (.ref C) ∧ PlanTxt K C
theorem plan_has {K : PySem.W.Frag} {h : Heap} {mg : Str → Option Value} {C f : Addr} (X : K.In h) (G : h.Ns mainGlobals mg) {od an : Option Addr} {sl : Array (Option Value)} {oc kV dc pm cd ct : Value} (aC : PySem.W.nsIn K mainGlobals "Plan" = some (some (.ref C))) (a1 : PySem.W.findIn K (.ref C) "__init__" = some (some (.ref f))) (i1 : PySem.W.isFn K (.ref f) = true)
    (l1 : K.lookup f = some ⟨oc, od, .func (PySem.W.fnOf "__init__" "Plan.__init__" (defArgs sInit) (defBody sInit) (defScope sInit) .none kV dc pm an cd ct), sl⟩) (c1 : PySem.W.codeIn K cd "Plan.__init__" = true) (k1 : PySem.W.keepIn K (.ref f) = true) (pg : PySem.W.plainGet K C Str.empty = true) (hd : PySem.W.hasDictIn K C = true) (po : PySem.W.plainOver K C = true)
    (sa : PySem.W.findIn K (.ref C) "__setattr__" = some (some (.builtin "object.__setattr__"))) (mk : PySem.W.makesIn K C = true) (kc : PySem.W.keepIn K (.ref C) = true) (n1 : PySem.W.findIn K (.ref C) "built" = some none) (n2 : PySem.W.findIn K (.ref C) "pipes" = some none) (n3 : PySem.W.findIn K (.ref C) "doors" = some none) (n4 : PySem.W.findIn K (.ref C) "gaps" = some none) (n5 : PySem.W.findIn K (.ref C) "towards" = some none) : HasPlan K mg :=
  ⟨C, f, _, ⟨mk, a1, i1, kc⟩, fun_mk (st := sInit) l1 c1 k1, PySem.W.mg_of X G aC, ⟨⟨pg, hd, po, sa⟩, n1, n2, n3, n4, n5⟩⟩
def HasErr (K : PySem.W.Frag) (mg : Str → Option Value) (nm fld qn : Str) (st : Stmt) (C : Addr) : Prop := ErrT K mg nm fld C ∧ ∃ fI fd, Fun K "__init__" qn st fI fd ∧ PySem.W.findIn K (.ref C) "__init__" = some (some (.ref fI)) ∧ PySem.W.typeIn K (.ref fI) = some (.type "function")
theorem err_has {K : PySem.W.Frag} {h : Heap} {mg : Str → Option Value} {nm fld qn : Str} {st : Stmt} {C fI : Addr} (X : K.In h) (G : h.Ns mainGlobals mg) {od an : Option Addr} {sl : Array (Option Value)} {oc kV dc pm cd ct : Value} {n' q : Str} {N : Addr} {bs bm : List Value} {sn : List Str} {sub : List Value} {ab : Bool} {col : Option Bool} {dd : Option Addr} {k0 k1 k2 k3 k5 : Option Value}
    (aC : PySem.W.nsIn K mainGlobals nm = some (some (.ref C))) (xL : K.lookup C = some (excClassObj n' q C N bs bm true sn sub ab col dd k0 k1 k2 k3 k5 "ValueError.__new__")) (rv : PySem.HandSPX.refsVE bm = true) (sa : PySem.W.findIn K (.ref C) "__setattr__" = some (some (.builtin "object.__setattr__"))) (exC : PySem.W.subIn K (.ref C) (.type "BaseException") = some true) (tyC : PySem.W.typeIn K (.ref C) = some (.type "type")) (kC : PySem.W.keepIn K (.ref C) = true)
    (ga : PySem.W.findIn K (.ref C) "__getattribute__" = some (some (.builtin "BaseException.__getattribute__"))) (gg : PySem.W.findIn K (.ref C) "__getattr__" = some none) (hdC : PySem.W.hasDictIn K C = true) (no : PySem.W.findIn K (.ref C) fld = some none) (cc : PySem.W.findIn K (.ref C) "__class__" = some (some (.builtin "object.__class__")))
    (gs : PySem.W.specialIn K (.builtin "object.__class__") "__get__" = some (some (.builtin "getset_descriptor.__get__"))) (tk : PySem.W.takesIn K (.builtin "object.__class__") = some true) (mo : PySem.W.mroIn K C (.type "object") = some true)
    (iC : PySem.W.findIn K (.ref C) "__init__" = some (some (.ref fI))) (tI : PySem.W.typeIn K (.ref fI) = some (.type "function")) (lI : K.lookup fI = some ⟨oc, od, .func (PySem.W.fnOf "__init__" qn (defArgs st) (defBody st) (defScope st) .none kV dc pm an cd ct), sl⟩) (cI : PySem.W.codeIn K cd qn = true) (kI : PySem.W.keepIn K (.ref fI) = true) : HasErr K mg nm fld qn st C :=
  ⟨⟨PySem.W.mg_of X G aC, ⟨⟨_, _, _, _, _, _, _, _, _, _, _, _, _, _, _, xL, rv⟩, sa, exC, tyC, kC⟩, ⟨ga, gg, exC, hdC⟩, no, ⟨by obtain ⟨c', hc', _⟩ := PySem.W.any_some hdC; rw [hc']; rfl, ga, gg, exC, cc, gs, tk, mo⟩⟩, fI, _, fun_mk (st := st) lI cI kI, iC, tI⟩
def HasErr2 (K : PySem.W.Frag) (mg : Str → Option Value) (nm f1 f2 qn : Str) (st : Stmt) (C : Addr) : Prop := ErrT2 K mg nm f1 f2 C ∧ ∃ fI fd, Fun K "__init__" qn st fI fd ∧ PySem.W.findIn K (.ref C) "__init__" = some (some (.ref fI)) ∧ PySem.W.typeIn K (.ref fI) = some (.type "function")
theorem err_has2 {K : PySem.W.Frag} {h : Heap} {mg : Str → Option Value} {nm f1 f2 qn : Str} {st : Stmt} {C fI : Addr} (X : K.In h) (G : h.Ns mainGlobals mg) {od an : Option Addr} {sl : Array (Option Value)} {oc kV dc pm cd ct : Value} {n' q : Str} {N : Addr} {bs bm : List Value} {sn : List Str} {sub : List Value} {ab : Bool} {col : Option Bool} {dd : Option Addr} {k0 k1 k2 k3 k5 : Option Value}
    (aC : PySem.W.nsIn K mainGlobals nm = some (some (.ref C))) (xL : K.lookup C = some (excClassObj n' q C N bs bm true sn sub ab col dd k0 k1 k2 k3 k5 "ValueError.__new__")) (rv : PySem.HandSPX.refsVE bm = true) (sa : PySem.W.findIn K (.ref C) "__setattr__" = some (some (.builtin "object.__setattr__"))) (exC : PySem.W.subIn K (.ref C) (.type "BaseException") = some true) (tyC : PySem.W.typeIn K (.ref C) = some (.type "type")) (kC : PySem.W.keepIn K (.ref C) = true)
    (ga : PySem.W.findIn K (.ref C) "__getattribute__" = some (some (.builtin "BaseException.__getattribute__"))) (gg : PySem.W.findIn K (.ref C) "__getattr__" = some none) (hdC : PySem.W.hasDictIn K C = true) (no : PySem.W.findIn K (.ref C) f1 = some none) (np : PySem.W.findIn K (.ref C) f2 = some none) (cc : PySem.W.findIn K (.ref C) "__class__" = some (some (.builtin "object.__class__")))
    (gs : PySem.W.specialIn K (.builtin "object.__class__") "__get__" = some (some (.builtin "getset_descriptor.__get__"))) (tk : PySem.W.takesIn K (.builtin "object.__class__") = some true) (mo : PySem.W.mroIn K C (.type "object") = some true)
    (iC : PySem.W.findIn K (.ref C) "__init__" = some (some (.ref fI))) (tI : PySem.W.typeIn K (.ref fI) = some (.type "function")) (lI : K.lookup fI = some ⟨oc, od, .func (PySem.W.fnOf "__init__" qn (defArgs st) (defBody st) (defScope st) .none kV dc pm an cd ct), sl⟩) (cI : PySem.W.codeIn K cd qn = true) (kI : PySem.W.keepIn K (.ref fI) = true) : HasErr2 K mg nm f1 f2 qn st C :=
  ⟨⟨PySem.W.mg_of X G aC, ⟨⟨_, _, _, _, _, _, _, _, _, _, _, _, _, _, _, xL, rv⟩, sa, exC, tyC, kC⟩, ⟨ga, gg, exC, hdC⟩, no, np, ⟨by obtain ⟨c', hc', _⟩ := PySem.W.any_some hdC; rw [hc']; rfl, ga, gg, exC, cc, gs, tk, mo⟩⟩, fI, _, fun_mk (st := st) lI cI kI, iC, tI⟩
theorem end_all {P : Program} {w : World} {K : PySem.W.Frag} {mg : Str → Option Value} {fa : Addr} {CNoEnd CNoPlace CBack CStuck CShut : Addr} (B : Blt mg) (hfa : mg "law" = some (.ref fa)) (hL : Has K mg "law" sLaw)
    (c_TAIL : ∃ t, mg "TAIL" = some (.int 0 t))
    (c_HEAD : ∃ t, mg "HEAD" = some (.int 1 t))
    (c_SHUT : ∃ t, mg "SHUT" = some (.int 0 t))
    (c_STUCK : ∃ t, mg "STUCK" = some (.int 1 t))
    (c_ROOMS : ∃ t, mg "ROOMS" = some (.int 16 t))
    (c_LONG : ∃ t, mg "LONG" = some (.int 1000000000000 t))
    (c_WIDE : ∃ t, mg "WIDE" = some (.int 1000000 t))
    (c_NARROWS : ∃ t, mg "NARROWS" = some (.int 12 t))
    (c_FLAPS : ∃ t, mg "FLAPS" = some (.int 6 t))
    (c_REACH : ∃ t, mg "REACH" = some (.int 100000000000000 t))
    (c_KNOTS : ∃ t, mg "KNOTS" = some (.int 4 t))
    (hP : HasPlan K mg)
    (XNoEnd : HasErr K mg "NoEnd" "end" "NoEnd.__init__" sENoEnd CNoEnd)
    (XNoPlace : HasErr K mg "NoPlace" "place" "NoPlace.__init__" sENoPlace CNoPlace)
    (XBack : HasErr K mg "Back" "place" "Back.__init__" sEBack CBack)
    (XStuck : HasErr K mg "Stuck" "knot" "Stuck.__init__" sEStuck CStuck)
    (XShut : HasErr2 K mg "Shut" "pipe" "at" "Shut.__init__" sEShut CShut)
    (xm : ExmSS K CShut CStuck)
    (h1 : Has K mg "doors_of" sDoors)
    (h2 : Has K mg "spread_from" sSpread)
    (h3 : Has K mg "are_in_one_pipe" sOnePipe)
    (h4 : Has K mg "exits_of" sExits)
    (h5 : Has K mg "shortest" sShort)
    (h6 : Has K mg "gap_of" sGap)
    (h7 : Has K mg "place_at" sPAt)
    (h8 : Has K mg "room_at" sRAt)
    (h9 : Has K mg "length_of" sLen)
    (h10 : Has K mg "at_along" sAl)
    (h11 : Has K mg "place_along" sPAl)
    (h12 : Has K mg "row_of" sRow)
    (h13 : Has K mg "is_whole" sWhole)
    (h14 : Has K mg "is_within" sWithin)
    (h15 : Has K mg "is_tuple_of" sTupOf)
    (h16 : Has K mg "is_place" sPlaceP)
    (h17 : Has K mg "knots_from_behind" sKFB)
    (h18 : Has K mg "shut_bars" sShB)
    (h19 : Has K mg "stuck_bars" sStB)
    (h20 : Has K mg "bars_of" sBOf)
    (h21 : Has K mg "refuse" sRfs)
    (h22 : Has K mg "stand_with" sSWt)
    (h23 : Has K mg "leg_done" sLDn)
    (h24 : Has K mg "pulled" sPul)
    (h25 : Has K mg "steps_to" sSTo)
    (h26 : Has K mg "cut_to" sCTo)
    (h27 : Has K mg "last_place" sLPl)
    (h28 : Has K mg "led_on" sLOn)
    (h29 : Has K mg "leads_of" sLOf)
    (h30 : Has K mg "run_along" sRAl)
    (h31 : Has K mg "runs_of" sROf)
    (h32 : Has K mg "halts" sHal)
    (h33 : Has K mg "are_rising_pairs" sRPs)
    (h34 : Has K mg "is_house" sIH)
    (h35 : Has K mg "is_pipe" sIP)
    (h36 : Has K mg "are_narrows" sAN)
    (h37 : Has K mg "are_flaps" sAF)
    (h38 : Has K mg "is_flap_way" sFW)
    (h39 : Has K mg "joins_all" sJA)
    (h40 : Has K mg "holds_few" sHF)
    (h41 : Has K mg "is_rope" sIRg)
    (h42 : Has K mg "is_narrower" sNar)
    (h43 : Has K mg "knots_fit" sKFt)
    (h44 : Has K mg "is_stand_in" sStI)
    (h45 : Has K mg "is_stand" sISd)
    (h46 : Has K mg "_law_draws" sDraws)
    (h47 : Has K mg "_law_next" sNxt)
    (h48 : Has K mg "_law_same" sSame)
    (h49 : Has K mg "_law_spot" sSpt)
    (h50 : Has K mg "_law_pulled" sPld)
    (h51 : Has K mg "_law_to_and_fro" sTaf)
    (h52 : Has K mg "_law_shuts" sShu)
    : ∃ fd : FuncData, (∀ (s : Shared) (u : Value), BindsTo s fd ⟨[u], []⟩ [("_law_script", u)]) ∧ ∀ base : Heap, K.In base → base.Ns mainGlobals mg → AtTop P w K mg base fa fd "_law_script" (spLaw K) := by
  obtain ⟨f, fd, F, g⟩ := hL
  have e := hfa.symm.trans g
  cases e
  obtain ⟨CP, fI, fdI, MI, FI, gI, XP⟩ := hP
  obtain ⟨TNoEnd, fNoEnd, fdNoEnd, FNoEnd, iNoEnd, tNoEnd⟩ := XNoEnd
  obtain ⟨TNoPlace, fNoPlace, fdNoPlace, FNoPlace, iNoPlace, tNoPlace⟩ := XNoPlace
  obtain ⟨TBack, fBack, fdBack, FBack, iBack, tBack⟩ := XBack
  obtain ⟨TStuck, fStuck, fdStuck, FStuck, iStuck, tStuck⟩ := XStuck
  obtain ⟨TShut, fShut, fdShut, FShut, iShut, tShut⟩ := XShut
  have all : ∀ base : Heap, (∀ (s : Shared) (u : Value), BindsTo s fd ⟨[u], []⟩ [("_law_script", u)]) ∧ AtTop P w K mg base fa fd "_law_script" (spLaw K) := fun base => by
    have ENoEnd : CanE P w K mg base "NoEnd" "end" CNoEnd := okENoEnd FNoEnd TNoEnd iNoEnd tNoEnd
    have ENoPlace : CanE P w K mg base "NoPlace" "place" CNoPlace := okENoPlace FNoPlace TNoPlace iNoPlace tNoPlace
    have EBack : CanE P w K mg base "Back" "place" CBack := okEBack FBack TBack iBack tBack
    have EStuck : CanE P w K mg base "Stuck" "knot" CStuck := okEStuck FStuck TStuck iStuck tStuck
    have EShut : CanE2 P w K mg base "Shut" "pipe" "at" CShut := okEShut FShut TShut iShut tShut
    have cDo : Can P w K mg base _ _ _ _ := ok_doors h1 B
    have cSp : Can P w K mg base _ _ _ _ := ok_spread h2 B
    have cPl := (⟨fI, fdI, MI, ok_init FI B XP cDo cSp, gI, FI.binds fun _ _ _ _ _ _ us hl => match us, hl with | [_, _], _ => rfl⟩ : CanMk P w K mg base "Plan" CP ["self", "house"] 2 (spInit CP))
    have cOP : Can P w K mg base _ _ _ _ := ok_onePipe h3 B
    have cEx : Can P w K mg base _ _ _ _ := ok_exits h4 B XP
    have cSh := ok_short h5 B XP cEx
    have cGa := ok_gap h6 B cOP cSh
    have cPA : Can P w K mg base _ _ _ _ := ok_pAt h7 XP
    have cRA : Can P w K mg base _ _ _ _ := ok_rAt h8 XP
    have cLn : Can P w K mg base _ _ _ _ := ok_len h9 B
    have cAl : Can P w K mg base _ _ _ _ := ok_al h10
    have cPg := ok_pAl h11 cLn cAl cPA
    have cRw := ok_row h12 B XP cOP cSh cRA
    have cWh : Can P w K mg base _ _ _ _ := ok_whole h13 B
    have cWi := ok_within h14 cWh
    have cTO : Can P w K mg base _ _ _ _ := ok_tupOf h15 B
    have cIPl := ok_placeP h16 B cTO cWi
    have cKF : Can P w K mg base _ _ _ _ := ok_kFB h17 B c_HEAD
    have cSB : Can P w K mg base _ _ _ _ := ok_shB h18 B c_SHUT
    have cTB : Can P w K mg base _ _ _ _ := ok_stB h19 B c_STUCK
    have cBO := ok_bOf h20 B XP cKF cSB cTB cLn
    have cRf := ok_rfs h21 c_SHUT EShut EStuck
    have cSW : Can P w K mg base _ _ _ _ := ok_sWt h22 c_HEAD
    have cLD := ok_lDn h23 B XP c_TAIL c_HEAD cWi cIPl cGa cRw cPg cBO cSW cRf ENoEnd ENoPlace EBack
    have cPu := ok_pul h24 cPl cLD
    have cRZ := ok_rowZ h12 B XP cOP cSh cRA
    have cSTo : Can P w K mg base _ _ _ _ := ok_sTo h25 B
    have cCTo := ok_cTo h26 cAl
    have cLPl := ok_lPl h27 cPA
    have cLOn : Can P w K mg base _ _ _ _ := ok_lOn h28
    have cLOf : Can P w K mg base _ _ _ _ := ok_lOf h29 B XP
    have cRAl := ok_rAl h30 B XP cLOn cLn cSTo cBO cCTo cSW cLPl
    have cROf := ok_rOf h31 c_TAIL c_HEAD cRZ cLOf cRAl
    have cHal := ok_hal h32 B cPl cROf
    have cFW := ok_fW h38 cWh
    have cRPs := ok_rPs h33 B cTO cWi
    have cAN := ok_aN h36 B c_WIDE cRPs cWi
    have cAF := ok_aF h37 B cRPs cFW
    have cIP := ok_iP h35 c_LONG cTO cWi cAN cAF
    have cJA : Can P w K mg base _ _ _ _ := ok_jA h39 B
    have cHF : Can P w K mg base _ _ _ _ := ok_hF h40 B c_NARROWS c_FLAPS
    have cIH := ok_iH h34 c_ROOMS cTO cWi cIP cJA cHF
    have cRPg := ok_rPg h33 B cTO cWi
    have cIRg := ok_iRg h41 B c_REACH c_KNOTS c_WIDE cTO cWi cRPg
    have cNar : Can P w K mg base _ _ _ _ := ok_nar h42 B XP
    have cKFt := ok_kFt h43 cNar cPg
    have cStI := ok_stI h44 XP cTO cIPl cGa cRw cKFt
    have cISd := ok_iSd h45 cPl cStI
    have cDr : Can P w K mg base _ _ _ _ := ok_draws h46 B
    have cNx : Can P w K mg base _ _ _ _ := ok_nxt h47 B
    have cSa : Can P w K mg base _ _ _ _ := ok_sameN h48 B 3
    have cSpt : Can P w K mg base _ _ _ _ := ok_spt h49 B
    have cPld := ok_pld h50 B TShut.g TStuck.g xm cPu
    have cTaf := ok_taf h51 B c_TAIL c_HEAD cSpt cPld cSa cHal
    have cShu := ok_shu h52 B c_TAIL c_HEAD cSpt cPld cSa
    exact ok_law F B c_ROOMS c_LONG c_WIDE c_NARROWS c_FLAPS c_REACH c_KNOTS c_TAIL c_HEAD cDr cNx cSa cIH cIRg cISd cSpt cTaf cShu
  exact ⟨fd, (all Inhabited.default).1, fun base _ _ => (all base).2⟩
end Rw
open PySem PySem.W PyProof.Rows
set_option maxHeartbeats 0 in
theorem PySem.Challenge.cw_ropewarren_k00_first_steps_holds : PySem.Challenge.rw_ropewarren_k00_first_steps.Holds := by
  w_on; o_law; k_head; (case hw => w_witness2)
  k_fill
  refine Rw.walk_top (l := PySem.Challenge.rw_ropewarren_k00_first_steps) (n := 63) (x := "_law_script") (sp := fun w => Rw.spLaw _) rfl (by decide) rfl (fun w h Y => PySem.W.kIn_of Y) ?F (fun _ _ a ns hl _ hS => ⟨a, ns, rfl, hS, hl, fun _ => rfl⟩)
  case F =>
    intro w mg fa h KX G hmg0
    have hmg : mg "law" = some (.ref fa) := hmg0
    clear hmg0
    refine' Rw.end_all (mg := mg) ?B hmg ?hL  ?c_TAIL ?c_HEAD ?c_SHUT ?c_STUCK ?c_ROOMS ?c_LONG ?c_WIDE ?c_NARROWS ?c_FLAPS ?c_REACH ?c_KNOTS  ?hP ?X_NoEnd ?X_NoPlace ?X_Back ?X_Stuck ?X_Shut ?f_xm ?h1 ?h2 ?h3 ?h4 ?h5 ?h6 ?h7 ?h8 ?h9 ?h10 ?h11 ?h12 ?h13 ?h14 ?h15 ?h16 ?h17 ?h18 ?h19 ?h20 ?h21 ?h22 ?h23 ?h24 ?h25 ?h26 ?h27 ?h28 ?h29 ?h30 ?h31 ?h32 ?h33 ?h34 ?h35 ?h36 ?h37 ?h38 ?h39 ?h40 ?h41 ?h42 ?h43 ?h44 ?h45 ?h46 ?h47 ?h48 ?h49 ?h50 ?h51 ?h52
    case B =>
      refine' ⟨PySem.W.mg_none_of KX G ?b1, PySem.W.mg_none_of KX G ?b2, PySem.W.mg_none_of KX G ?b3, PySem.W.mg_none_of KX G ?b4, PySem.W.mg_none_of KX G ?b5, PySem.W.mg_none_of KX G ?b6, PySem.W.mg_none_of KX G ?b7, PySem.W.mg_none_of KX G ?b8, PySem.W.mg_none_of KX G ?b9, PySem.W.mg_none_of KX G ?b10, PySem.W.mg_none_of KX G ?b11, PySem.W.mg_none_of KX G ?b12, PySem.W.mg_none_of KX G ?b13, PySem.W.mg_none_of KX G ?b14, PySem.W.mg_none_of KX G ?b15, PySem.W.mg_none_of KX G ?b16, PySem.W.mg_none_of KX G ?b17, PySem.W.mg_none_of KX G ?b18, PySem.W.mg_none_of KX G ?b19⟩
      (case b1 => k_is)
      (case b2 => k_is)
      (case b3 => k_is)
      (case b4 => k_is)
      (case b5 => k_is)
      (case b6 => k_is)
      (case b7 => k_is)
      (case b8 => k_is)
      (case b9 => k_is)
      (case b10 => k_is)
      (case b11 => k_is)
      (case b12 => k_is)
      (case b13 => k_is)
      (case b14 => k_is)
      (case b15 => k_is)
      (case b16 => k_is)
      (case b17 => k_is)
      (case b18 => k_is)
      (case b19 => k_is)
    case c_TAIL =>
      refine' Rw.cst_mk KX G ?a
      (case a => k_is)
    case c_HEAD =>
      refine' Rw.cst_mk KX G ?a
      (case a => k_is)
    case c_SHUT =>
      refine' Rw.cst_mk KX G ?a
      (case a => k_is)
    case c_STUCK =>
      refine' Rw.cst_mk KX G ?a
      (case a => k_is)
    case c_ROOMS =>
      refine' Rw.cst_mk KX G ?a
      (case a => k_is)
    case c_LONG =>
      refine' Rw.cst_mk KX G ?a
      (case a => k_is)
    case c_WIDE =>
      refine' Rw.cst_mk KX G ?a
      (case a => k_is)
    case c_NARROWS =>
      refine' Rw.cst_mk KX G ?a
      (case a => k_is)
    case c_FLAPS =>
      refine' Rw.cst_mk KX G ?a
      (case a => k_is)
    case c_REACH =>
      refine' Rw.cst_mk KX G ?a
      (case a => k_is)
    case c_KNOTS =>
      refine' Rw.cst_mk KX G ?a
      (case a => k_is)
    case hP =>
      refine' Rw.plan_has KX G ?aC ?a1 ?i1 ?l1 ?c1 ?k1 ?pg ?hd ?po ?sa ?mk ?kc ?n1 ?n2 ?n3 ?n4 ?n5
      (case aC => k_is)
      (case a1 => k_is)
      (case i1 => k_is)
      (case l1 => k_is)
      (case c1 => k_is)
      (case k1 => k_is)
      (case pg => k_is)
      (case hd => k_is)
      (case po => k_is)
      (case sa => k_is)
      (case mk => k_is)
      (case kc => k_is)
      (case n1 => k_is)
      (case n2 => k_is)
      (case n3 => k_is)
      (case n4 => k_is)
      (case n5 => k_is)
    case X_NoEnd =>
      refine' Rw.err_has KX G ?aC ?xL ?rv ?sa ?exC ?tyC ?kC ?ga ?gg ?hdC ?no ?cc ?gs ?tk ?mo ?iC ?tI ?lI ?cI ?kI
      (case aC => k_is)
      (case xL => k_is)
      (case rv => decide +kernel)
      (case sa => k_is)
      (case exC => k_is)
      (case tyC => k_is)
      (case kC => k_is)
      (case ga => k_is)
      (case gg => k_is)
      (case hdC => k_is)
      (case no => k_is)
      (case cc => k_is)
      (case gs => k_is)
      (case tk => k_is)
      (case mo => k_is)
      (case iC => k_is)
      (case tI => k_is)
      (case lI => k_is)
      (case cI => k_is)
      (case kI => k_is)
    case X_NoPlace =>
      refine' Rw.err_has KX G ?aC ?xL ?rv ?sa ?exC ?tyC ?kC ?ga ?gg ?hdC ?no ?cc ?gs ?tk ?mo ?iC ?tI ?lI ?cI ?kI
      (case aC => k_is)
      (case xL => k_is)
      (case rv => decide +kernel)
      (case sa => k_is)
      (case exC => k_is)
      (case tyC => k_is)
      (case kC => k_is)
      (case ga => k_is)
      (case gg => k_is)
      (case hdC => k_is)
      (case no => k_is)
      (case cc => k_is)
      (case gs => k_is)
      (case tk => k_is)
      (case mo => k_is)
      (case iC => k_is)
      (case tI => k_is)
      (case lI => k_is)
      (case cI => k_is)
      (case kI => k_is)
    case X_Back =>
      refine' Rw.err_has KX G ?aC ?xL ?rv ?sa ?exC ?tyC ?kC ?ga ?gg ?hdC ?no ?cc ?gs ?tk ?mo ?iC ?tI ?lI ?cI ?kI
      (case aC => k_is)
      (case xL => k_is)
      (case rv => decide +kernel)
      (case sa => k_is)
      (case exC => k_is)
      (case tyC => k_is)
      (case kC => k_is)
      (case ga => k_is)
      (case gg => k_is)
      (case hdC => k_is)
      (case no => k_is)
      (case cc => k_is)
      (case gs => k_is)
      (case tk => k_is)
      (case mo => k_is)
      (case iC => k_is)
      (case tI => k_is)
      (case lI => k_is)
      (case cI => k_is)
      (case kI => k_is)
    case X_Stuck =>
      refine' Rw.err_has KX G ?aC ?xL ?rv ?sa ?exC ?tyC ?kC ?ga ?gg ?hdC ?no ?cc ?gs ?tk ?mo ?iC ?tI ?lI ?cI ?kI
      (case aC => k_is)
      (case xL => k_is)
      (case rv => decide +kernel)
      (case sa => k_is)
      (case exC => k_is)
      (case tyC => k_is)
      (case kC => k_is)
      (case ga => k_is)
      (case gg => k_is)
      (case hdC => k_is)
      (case no => k_is)
      (case cc => k_is)
      (case gs => k_is)
      (case tk => k_is)
      (case mo => k_is)
      (case iC => k_is)
      (case tI => k_is)
      (case lI => k_is)
      (case cI => k_is)
      (case kI => k_is)
    case X_Shut =>
      refine' Rw.err_has2 KX G ?aC ?xL ?rv ?sa ?exC ?tyC ?kC ?ga ?gg ?hdC ?no ?np ?cc ?gs ?tk ?mo ?iC ?tI ?lI ?cI ?kI
      (case aC => k_is)
      (case xL => k_is)
      (case rv => decide +kernel)
      (case sa => k_is)
      (case exC => k_is)
      (case tyC => k_is)
      (case kC => k_is)
      (case ga => k_is)
      (case gg => k_is)
      (case hdC => k_is)
      (case no => k_is)
      (case np => k_is)
      (case cc => k_is)
      (case gs => k_is)
      (case tk => k_is)
      (case mo => k_is)
      (case iC => k_is)
      (case tI => k_is)
      (case lI => k_is)
      (case cI => k_is)
      (case kI => k_is)
    case f_xm =>
      refine' ⟨?x0, ?x1, ?x2⟩
      (case x0 => first | rfl | k_is)
      (case x1 => first | rfl | k_is)
      (case x2 => first | rfl | k_is)
    case hL =>
      refine' Rw.has_mk KX G ?a ?l ?c ?k
      (case a => k_is); (case l => k_is); (case c => k_is); (case k => k_is)
    case h1 =>
      refine' Rw.has_mk KX G ?a ?l ?c ?k
      (case a => k_is); (case l => k_is); (case c => k_is); (case k => k_is)
    case h2 =>
      refine' Rw.has_mk KX G ?a ?l ?c ?k
      (case a => k_is); (case l => k_is); (case c => k_is); (case k => k_is)
    case h3 =>
      refine' Rw.has_mk KX G ?a ?l ?c ?k
      (case a => k_is); (case l => k_is); (case c => k_is); (case k => k_is)
    case h4 =>
      refine' Rw.has_mk KX G ?a ?l ?c ?k
      (case a => k_is); (case l => k_is); (case c => k_is); (case k => k_is)
    case h5 =>
      refine' Rw.has_mk KX G ?a ?l ?c ?k
      (case a => k_is); (case l => k_is); (case c => k_is); (case k => k_is)
    case h6 =>
      refine' Rw.has_mk KX G ?a ?l ?c ?k
      (case a => k_is); (case l => k_is); (case c => k_is); (case k => k_is)
    case h7 =>
      refine' Rw.has_mk KX G ?a ?l ?c ?k
      (case a => k_is); (case l => k_is); (case c => k_is); (case k => k_is)
    case h8 =>
      refine' Rw.has_mk KX G ?a ?l ?c ?k
      (case a => k_is); (case l => k_is); (case c => k_is); (case k => k_is)
    case h9 =>
      refine' Rw.has_mk KX G ?a ?l ?c ?k
      (case a => k_is); (case l => k_is); (case c => k_is); (case k => k_is)
    case h10 =>
      refine' Rw.has_mk KX G ?a ?l ?c ?k
      (case a => k_is); (case l => k_is); (case c => k_is); (case k => k_is)
    case h11 =>
      refine' Rw.has_mk KX G ?a ?l ?c ?k
      (case a => k_is); (case l => k_is); (case c => k_is); (case k => k_is)
    case h12 =>
      refine' Rw.has_mk KX G ?a ?l ?c ?k
      (case a => k_is); (case l => k_is); (case c => k_is); (case k => k_is)
    case h13 =>
      refine' Rw.has_mk KX G ?a ?l ?c ?k
      (case a => k_is); (case l => k_is); (case c => k_is); (case k => k_is)
    case h14 =>
      refine' Rw.has_mk KX G ?a ?l ?c ?k
      (case a => k_is); (case l => k_is); (case c => k_is); (case k => k_is)
    case h15 =>
      refine' Rw.has_mk KX G ?a ?l ?c ?k
      (case a => k_is); (case l => k_is); (case c => k_is); (case k => k_is)
    case h16 =>
      refine' Rw.has_mk KX G ?a ?l ?c ?k
      (case a => k_is); (case l => k_is); (case c => k_is); (case k => k_is)
    case h17 =>
      refine' Rw.has_mk KX G ?a ?l ?c ?k
      (case a => k_is); (case l => k_is); (case c => k_is); (case k => k_is)
    case h18 =>
      refine' Rw.has_mk KX G ?a ?l ?c ?k
      (case a => k_is); (case l => k_is); (case c => k_is); (case k => k_is)
    case h19 =>
      refine' Rw.has_mk KX G ?a ?l ?c ?k
      (case a => k_is); (case l => k_is); (case c => k_is); (case k => k_is)
    case h20 =>
      refine' Rw.has_mk KX G ?a ?l ?c ?k
      (case a => k_is); (case l => k_is); (case c => k_is); (case k => k_is)
    case h21 =>
      refine' Rw.has_mk KX G ?a ?l ?c ?k
      (case a => k_is); (case l => k_is); (case c => k_is); (case k => k_is)
    case h22 =>
      refine' Rw.has_mk KX G ?a ?l ?c ?k
      (case a => k_is); (case l => k_is); (case c => k_is); (case k => k_is)
    case h23 =>
      refine' Rw.has_mk KX G ?a ?l ?c ?k
      (case a => k_is); (case l => k_is); (case c => k_is); (case k => k_is)
    case h24 =>
      refine' Rw.has_mk KX G ?a ?l ?c ?k
      (case a => k_is); (case l => k_is); (case c => k_is); (case k => k_is)
    case h25 =>
      refine' Rw.has_mk KX G ?a ?l ?c ?k
      (case a => k_is); (case l => k_is); (case c => k_is); (case k => k_is)
    case h26 =>
      refine' Rw.has_mk KX G ?a ?l ?c ?k
      (case a => k_is); (case l => k_is); (case c => k_is); (case k => k_is)
    case h27 =>
      refine' Rw.has_mk KX G ?a ?l ?c ?k
      (case a => k_is); (case l => k_is); (case c => k_is); (case k => k_is)
    case h28 =>
      refine' Rw.has_mk KX G ?a ?l ?c ?k
      (case a => k_is); (case l => k_is); (case c => k_is); (case k => k_is)
    case h29 =>
      refine' Rw.has_mk KX G ?a ?l ?c ?k
      (case a => k_is); (case l => k_is); (case c => k_is); (case k => k_is)
    case h30 =>
      refine' Rw.has_mk KX G ?a ?l ?c ?k
      (case a => k_is); (case l => k_is); (case c => k_is); (case k => k_is)
    case h31 =>
      refine' Rw.has_mk KX G ?a ?l ?c ?k
      (case a => k_is); (case l => k_is); (case c => k_is); (case k => k_is)
    case h32 =>
      refine' Rw.has_mk KX G ?a ?l ?c ?k
      (case a => k_is); (case l => k_is); (case c => k_is); (case k => k_is)
    case h33 =>
      refine' Rw.has_mk KX G ?a ?l ?c ?k
      (case a => k_is); (case l => k_is); (case c => k_is); (case k => k_is)
    case h34 =>
      refine' Rw.has_mk KX G ?a ?l ?c ?k
      (case a => k_is); (case l => k_is); (case c => k_is); (case k => k_is)
    case h35 =>
      refine' Rw.has_mk KX G ?a ?l ?c ?k
      (case a => k_is); (case l => k_is); (case c => k_is); (case k => k_is)
    case h36 =>
      refine' Rw.has_mk KX G ?a ?l ?c ?k
      (case a => k_is); (case l => k_is); (case c => k_is); (case k => k_is)
    case h37 =>
      refine' Rw.has_mk KX G ?a ?l ?c ?k
      (case a => k_is); (case l => k_is); (case c => k_is); (case k => k_is)
    case h38 =>
      refine' Rw.has_mk KX G ?a ?l ?c ?k
      (case a => k_is); (case l => k_is); (case c => k_is); (case k => k_is)
    case h39 =>
      refine' Rw.has_mk KX G ?a ?l ?c ?k
      (case a => k_is); (case l => k_is); (case c => k_is); (case k => k_is)
    case h40 =>
      refine' Rw.has_mk KX G ?a ?l ?c ?k
      (case a => k_is); (case l => k_is); (case c => k_is); (case k => k_is)
    case h41 =>
      refine' Rw.has_mk KX G ?a ?l ?c ?k
      (case a => k_is); (case l => k_is); (case c => k_is); (case k => k_is)
    case h42 =>
      refine' Rw.has_mk KX G ?a ?l ?c ?k
      (case a => k_is); (case l => k_is); (case c => k_is); (case k => k_is)
    case h43 =>
      refine' Rw.has_mk KX G ?a ?l ?c ?k
      (case a => k_is); (case l => k_is); (case c => k_is); (case k => k_is)
    case h44 =>
      refine' Rw.has_mk KX G ?a ?l ?c ?k
      (case a => k_is); (case l => k_is); (case c => k_is); (case k => k_is)
    case h45 =>
      refine' Rw.has_mk KX G ?a ?l ?c ?k
      (case a => k_is); (case l => k_is); (case c => k_is); (case k => k_is)
    case h46 =>
      refine' Rw.has_mk KX G ?a ?l ?c ?k
      (case a => k_is); (case l => k_is); (case c => k_is); (case k => k_is)
    case h47 =>
      refine' Rw.has_mk KX G ?a ?l ?c ?k
      (case a => k_is); (case l => k_is); (case c => k_is); (case k => k_is)
    case h48 =>
      refine' Rw.has_mk KX G ?a ?l ?c ?k
      (case a => k_is); (case l => k_is); (case c => k_is); (case k => k_is)
    case h49 =>
      refine' Rw.has_mk KX G ?a ?l ?c ?k
      (case a => k_is); (case l => k_is); (case c => k_is); (case k => k_is)
    case h50 =>
      refine' Rw.has_mk KX G ?a ?l ?c ?k
      (case a => k_is); (case l => k_is); (case c => k_is); (case k => k_is)
    case h51 =>
      refine' Rw.has_mk KX G ?a ?l ?c ?k
      (case a => k_is); (case l => k_is); (case c => k_is); (case k => k_is)
    case h52 =>
      refine' Rw.has_mk KX G ?a ?l ?c ?k
      (case a => k_is); (case l => k_is); (case c => k_is); (case k => k_is)
