import PyProof.Rows.All
import Wide.All
import OpenK.AllK
import Wide.FinOn
import PyProof.ReprRoads
import HandS.ForMost
import HandS.Flow
import HandS.Wide
import HandS.IsInst
import HandS.Strs
import HandS.SetFor
import HandS.TupAny
import HandS.Rev
import HandS.NoneIn
import HandS.Style
import HandS.SortInts
import HandS.More
import KE.DataMinMax
import KE.GoesMore
import KE.DatumOrd
import KE.KDictDisplayH
import KE.SortData
import HandS.Conv
import HandS.Walk
import HandS.DictSub
import HandS.Text
import HandS.FStr
import HandS.Deep
import HandS.RaiseMore
import HandS.ForExc
import HandS.ExcInit
import HandS.ExcField
import HandS.TryMany
import KE.KExcIs
import HandS.Zip
import PySem.Challenge.RW_ropewarren_k07_houses_halved
set_option Elab.async false
set_option linter.all false
set_option maxRecDepth 100000
set_option maxHeartbeats 4000000
namespace Rw
open PySem PySem.Spec PyProof.Rows L2
/-! heaps of which all but a few addresses stay -/
def Keep (av : List Addr) (H H' : Hp) : Prop := ∀ b o, H b = some o → b ∉ av → H' b = some o
theorem Keep.refl (av : List Addr) (H : Hp) : Keep av H H := fun _ _ e _ => e
theorem Keep.trans {av : List Addr} {H H1 H2 : Hp} (x : Keep av H H1) (y : Keep av H1 H2) : Keep av H H2 := fun b o e n => y b o (x b o e n) n
theorem Keep.new {av : List Addr} {H : Hp} {p : Addr} {o : HO} (n : H p = none) : Keep av H (upd H p o) := fun b z e _ => by
  rw [upd_ne (ne_of_none e n)]; exact e
theorem Keep.put {av : List Addr} {H : Hp} {p : Addr} {o : HO} (n : p ∈ av) : Keep av H (upd H p o) := fun b z e nb => by
  rw [upd_ne (show b ≠ p from fun q => nb (by rw [q]; exact n))]; exact e
theorem Keep.mono {av av' : List Addr} {H H' : Hp} (x : Keep av H H') (s : ∀ a ∈ av, a ∈ av') : Keep av' H H' := fun b o e n => x b o e fun q => n (s b q)
/-! a fresh address may be left out of what is left out -/
theorem Keep.drop {av : List Addr} {H H' : Hp} {p : Addr} (n : H p = none) (x : Keep (p :: av) H H') : Keep av H H' := fun b o e nb => x b o e fun q => by
  rcases List.mem_cons.mp q with q | q
  · exact ne_of_none e n q
  · exact nb q
/-! data: what stands at a value, without the addresses av -/
mutual
inductive Dt (av : List Addr) (H : Hp) : V → PyData → Prop
  | non : Dt av H .non .none
  | bl (b : Bool) : Dt av H (.bl b) (.bool b)
  | int (i : Int) : Dt av H (.int i) (.int i)
  | str (x : Str) : Dt av H (.str x) (.str x)
  | lst {a : Addr} {xs : List V} {ds : List PyData} : a ∉ av → H a = some (.lst xs) → Dts av H xs ds → Dt av H (.ref a) (.list ds)
  | tup {a : Addr} {xs : List V} {ds : List PyData} : a ∉ av → H a = some (.tup xs) → Dts av H xs ds → Dt av H (.ref a) (.tuple ds)
  | dct {a : Addr} : a ∉ av → H a = some (.dK []) → Dt av H (.ref a) (.dict [])
inductive Dts (av : List Addr) (H : Hp) : List V → List PyData → Prop
  | nil : Dts av H [] []
  | cons {v : V} {vs : List V} {d : PyData} {ds : List PyData} : Dt av H v d → Dts av H vs ds → Dts av H (v :: vs) (d :: ds)
end
mutual
theorem Dt.map {av av' : List Addr} {H H' : Hp} (f : ∀ b o, H b = some o → b ∉ av → H' b = some o ∧ b ∉ av') : ∀ (d : PyData) (v : V), Dt av H v d → Dt av' H' v d
  | _, _, .non => .non
  | _, _, .bl b => .bl b
  | _, _, .int i => .int i
  | _, _, .str x => .str x
  | .list ds, _, .lst n e s => .lst (f _ _ e n).2 (f _ _ e n).1 (Dts.map f ds _ s)
  | .tuple ds, _, .tup n e s => .tup (f _ _ e n).2 (f _ _ e n).1 (Dts.map f ds _ s)
  | _, _, .dct n e => .dct (f _ _ e n).2 (f _ _ e n).1
theorem Dts.map {av av' : List Addr} {H H' : Hp} (f : ∀ b o, H b = some o → b ∉ av → H' b = some o ∧ b ∉ av') : ∀ (ds : List PyData) (vs : List V), Dts av H vs ds → Dts av' H' vs ds
  | _, _, .nil => .nil
  | d :: ds, _, .cons h t => .cons (Dt.map f d _ h) (Dts.map f ds _ t)
end
theorem Dt.keep {av : List Addr} {H H' : Hp} {v : V} {d : PyData} (x : Dt av H v d) (k : Keep av H H') : Dt av H' v d := Dt.map (fun b o e n => ⟨k b o e n, n⟩) d v x
theorem Dts.keep {av : List Addr} {H H' : Hp} {v : List V} {d : List PyData} (x : Dts av H v d) (k : Keep av H H') : Dts av H' v d := Dts.map (fun b o e n => ⟨k b o e n, n⟩) d v x
theorem Dt.more {av : List Addr} {H : Hp} {v : V} {d : PyData} {p : Addr} (x : Dt av H v d) (n : H p = none) : Dt (p :: av) H v d :=
  Dt.map (fun b o e nb => ⟨e, fun q => (List.mem_cons.mp q).elim (ne_of_none e n) nb⟩) d v x
theorem Dts.more {av : List Addr} {H : Hp} {v : List V} {d : List PyData} {p : Addr} (x : Dts av H v d) (n : H p = none) : Dts (p :: av) H v d :=
  Dts.map (fun b o e nb => ⟨e, fun q => (List.mem_cons.mp q).elim (ne_of_none e n) nb⟩) d v x
theorem Dt.less {av av' : List Addr} {H : Hp} {v : V} {d : PyData} (x : Dt av H v d) (s : ∀ a ∈ av', a ∈ av) : Dt av' H v d :=
  Dt.map (fun b o e nb => ⟨e, fun q => nb (s b q)⟩) d v x
theorem Dts.less {av av' : List Addr} {H : Hp} {v : List V} {d : List PyData} (x : Dts av H v d) (s : ∀ a ∈ av', a ∈ av) : Dts av' H v d :=
  Dts.map (fun b o e nb => ⟨e, fun q => nb (s b q)⟩) d v x
theorem Dts.len {av : List Addr} {H : Hp} : ∀ {vs : List V} {ds : List PyData}, Dts av H vs ds → vs.length = ds.length
  | _, _, .nil => rfl
  | _, _, .cons _ t => by rw [List.length_cons, List.length_cons, t.len]
theorem Dts.get {av : List Addr} {H : Hp} : ∀ {vs : List V} {ds : List PyData} (i : Nat) {d : PyData}, Dts av H vs ds → ds[i]? = some d → ∃ v, vs[i]? = some v ∧ Dt av H v d
  | _, _, _, _, .nil, e => by simp at e
  | _, _, 0, _, .cons h _, e => by simp at e; subst e; exact ⟨_, rfl, h⟩
  | _, _, i + 1, d, .cons _ t, e => by
    obtain ⟨u, h1, h2⟩ := Dts.get (i := i) (d := d) t (by simpa using e)
    exact ⟨u, by simpa using h1, h2⟩
theorem Dts.getv {av : List Addr} {H : Hp} : ∀ {vs : List V} {ds : List PyData} (i : Nat) {v : V}, Dts av H vs ds → vs[i]? = some v → ∃ d, ds[i]? = some d ∧ Dt av H v d
  | _, _, _, _, .nil, e => by simp at e
  | _, _, 0, _, .cons h _, e => by simp at e; subst e; exact ⟨_, rfl, h⟩
  | _, _, i + 1, d, .cons _ t, e => by
    obtain ⟨u, h1, h2⟩ := Dts.getv (i := i) (v := d) t (by simpa using e)
    exact ⟨u, by simpa using h1, h2⟩
theorem Dts.app {av : List Addr} {H : Hp} : ∀ {vs us : List V} {ds es : List PyData}, Dts av H vs ds → Dts av H us es → Dts av H (vs ++ us) (ds ++ es)
  | _, _, _, _, .nil, y => y
  | _, _, _, _, .cons h t, y => .cons h (Dts.app t y)
theorem Dts.mem {av : List Addr} {H : Hp} : ∀ {vs : List V} {ds : List PyData} {v : V}, Dts av H vs ds → v ∈ vs → ∃ d ∈ ds, Dt av H v d
  | _, _, _, .nil, e => by simp at e
  | _, _, v, .cons (d := d) h t, e => by
    rcases List.mem_cons.mp e with e | e
    · subst e; exact ⟨d, List.mem_cons_self, h⟩
    · obtain ⟨d', m, x⟩ := Dts.mem t e
      exact ⟨d', List.mem_cons_of_mem _ m, x⟩
theorem Dts.take {av : List Addr} {H : Hp} : ∀ {vs : List V} {ds : List PyData} (n : Nat), Dts av H vs ds → Dts av H (vs.take n) (ds.take n)
  | _, _, 0, _ => .nil
  | _, _, _ + 1, .nil => .nil
  | _, _, n + 1, .cons r t => .cons r (Dts.take n t)
theorem Dts.drop {av : List Addr} {H : Hp} : ∀ {vs : List V} {ds : List PyData} (n : Nat), Dts av H vs ds → Dts av H (vs.drop n) (ds.drop n)
  | _, _, 0, r => r
  | _, _, _ + 1, .nil => .nil
  | _, _, n + 1, .cons _ t => Dts.drop n t
theorem Dts.rev {av : List Addr} {H : Hp} : ∀ {vs : List V} {ds : List PyData}, Dts av H vs ds → Dts av H vs.reverse ds.reverse
  | _, _, .nil => .nil
  | _, _, .cons r t => by rw [List.reverse_cons, List.reverse_cons]; exact Dts.app t.rev (.cons r .nil)
theorem Dts.ints {av : List Addr} {H : Hp} : ∀ ns : List Int, Dts av H (ns.map V.int) (ns.map PyData.int)
  | [] => .nil
  | n :: ns => .cons (.int n) (Dts.ints ns)
end Rw

namespace Rw
open PySem PySem.Spec PyProof.Rows L2
/-! ### set(xs) of a list of hin, its order left open -/
abbrev set0 (w : World) : Obj := { cls := .type "set", dict := none, data := .set #[] 0 (.fresh 0 0 (!w.params.followText "set-order")) }
section
variable {P : Program} {w : World} {A : Around} {E : Value → Shared → Prop} {s : Shared}
theorem set_of_list {l : Addr} {its : Array Value} (ns : List Int) {Q : Value → Shared → Prop} (calm : A.handled = none) (hl : s.heap.IsList l its) (hin : IntsAre its.toList ns) (few : ns.length + 1 < scanBound)
    (h : ∀ (h' : Heap) (tk c : Nat), SetR w h' s.heap.objs.size (fun j => decide (j ∈ ns)) c → c ≤ ns.length → (∀ b o, s.heap.get? b = some o → h'.get? b = some o) → Q (.ref s.heap.objs.size) { s with heap := h', toks := tk }) :
    wpAny (model P w) A (call (.type "set") [.ref l]) Q E s := by
  have isz : its.size = ns.length := (Array.length_toList (xs := its)).symm.trans (IntsAre.length hin)
  obtain ⟨c, tl, m1⟩ := F.called_set.mro
  have m2 := F.called_set.made
  have m3 := F.called_set.sub
  refine wpAny_call (codeAny_of_tree (show wpAny _ _ (callAny (.type "set") _) _ _ _ from ?_))
  refine wpAny_pure ⟨Code.quiet_builtin _ (by decide +kernel), codeAny_builtin (F.entry_type_call) ?_⟩
  rw [Around.under_plain (weight_type_call_type "set" [Value.ref l] []) rfl]
  have m4 := F.called_set.notType
  have m5 := F.called_set.canCreate
  have m6 := F.typeCall_set_1 (Value.ref l)
  repeat any_goals (first | assumption | wp_step)
  refine codeAny_mono (code_set_led1 (Value.ref l) (E := E) (Q₁ := fun ob s1 => ob = .ref s.heap.objs.size ∧ s1 = { s with heap := s.heap.push (set0 w) }) ⟨rfl, rfl⟩) fun r s1 hr => ?_
  cases r with
  | error e => exact hr
  | ok fl =>
    cases fl with
    | ret ob =>
      obtain ⟨rfl, rfl⟩ := hr
      have at0 : (s.heap.push (set0 w)).get? s.heap.objs.size = some (set0 w) := Heap.get?_push_size _ rfl
      have ty : Shared.TypeIs { s with heap := s.heap.push (set0 w) } (.ref s.heap.objs.size) "set" := ⟨_, at0, rfl⟩
      have m7 := F.called_set.init.lookup
      have m8 := F.called_set.init.bind (Value.ref s.heap.objs.size)
      repeat any_goals (first | assumption | wp_step)
      refine codeAny_mono (codeAny_call_builtin (R := wants (fun r s2 => r = .none ∧ ∃ h' tk c, s2 = { s with heap := h', toks := tk } ∧ SetR w h' s.heap.objs.size (fun j => decide (j ∈ ns)) c ∧ c ≤ ns.length ∧ (∀ b o, s.heap.get? b = some o → h'.get? b = some o)) E)
        F.called_set.init.plain F.entry_set_init (check_set_init_1 ty ?_)) fun r2 s2 hr2 => ?_
      · obtain ⟨⟨oc, od, odata, osl⟩, e0, e1, nl, e2⟩ := hl
        simp only at e1 e2
        subst e1; subst e2
        have e3 : (s.heap.push (set0 w)).get? l = some { cls := .type "list", dict := od, data := .seq its nl, slots := osl } := Heap.get?_push_of_some _ e0
        have n1 := F.sub_list_set
        have n2 := F.sub_list_frozenset
        have n3 : (Value.type "list" == Value.type "dict") = false := by decide
        have hl1 : (s.heap.push (set0 w)).IsList l its := ⟨_, e3, rfl, nl, rfl⟩
        unfold Builtin.«set.__init__» noKeywords Builtin.Frozenset.updateFrom
        generalize gi : pyIter = PI
        wp_walk
        subst gi
        refine wpAny_pyIter_list hl1 (wpAny_bind (wpAny_runValue ?_))
        have lt0 : l < s.heap.objs.size := Heap.lt_size e0
        have calm3 : A.in1.in1.in1.handled = none := by simp [calm]
        have ne1 : l ≠ (s.heap.push (set0 w)).objs.size := by
          rw [Heap.size_push]; exact Nat.ne_of_lt (Nat.lt_succ_of_lt lt0)
        have ne2 : s.heap.objs.size ∉ [(s.heap.push (set0 w)).objs.size, l] := by
          rw [Heap.size_push]
          intro q
          simp only [List.mem_cons, List.not_mem_nil, or_false] at q
          exact q.elim (Nat.ne_of_lt (Nat.lt_succ_self _)) (Nat.ne_of_gt lt0)
        have val : ∀ (i : Nat) (v : Value), its[i]? = some v → ∃ k t, ns[i]? = some k ∧ v = .int k t := fun i v hv => by
          have hi : i < ns.length := by rw [← isz]; exact (Array.getElem?_eq_some_iff.mp hv).1
          obtain ⟨t, e⟩ := PyProof.Rows.IntsAre.int_at hin i v (by rw [Array.getElem?_toList]; exact hv)
          refine ⟨ns[i], t, List.getElem?_eq_getElem hi, e.trans ?_⟩
          rw [List.getD_eq_getElem?_getD, List.getElem?_eq_getElem hi]; rfl
        refine set_update_ints ((Walks.list calm3 _ l ne1 its).toS) s.heap.objs.size ne2 ns isz few val (its.size - 0) 0 _ (by omega) (Nat.zero_le _) ⟨⟨_, Heap.get?_push_size _ rfl, rfl, rfl⟩, (hl1.push _)⟩ ?start ?fin
        case start => exact ⟨0, Nat.le_refl 0, setR_new_at (Heap.get?_push_of_some _ at0)⟩
        case fin =>
          intro s3 c3 mv le3 R3
          obtain ⟨h3, g3, d3, t3, o3⟩ := s3
          obtain rfl : g3 = s.gens := mv.gens
          obtain rfl : d3 = s.drawn := mv.drawn
          obtain rfl : o3 = s.os := mv.os
          show wpAny _ _ _ _ _ _
          refine wpAny_pure (show wpAny _ _ (ret Value.none) _ _ _ from ?_)
          rw [isz] at le3
          refine wpAny_pure ⟨rfl, h3, t3, c3, rfl, R3, le3, fun b o e => ?_⟩
          have lb : b < s.heap.objs.size := Heap.lt_size e
          refine mv.heap b o (fun q => ?_) (Heap.get?_push_of_some _ (Heap.get?_push_of_some _ e))
          rw [Heap.size_push] at q
          simp only [List.mem_cons, List.not_mem_nil, or_false] at q
          exact q.elim (Nat.ne_of_lt lb) (Nat.ne_of_lt (Nat.lt_succ_of_lt lb))
      · cases r2 with
        | error e => exact hr2
        | ok f2 =>
          cases f2 with
          | ret r =>
            obtain ⟨rfl, h', tk, c3, rfl, R3, le3, k3⟩ := hr2
            repeat any_goals (first | assumption | wp_step)
            exact h _ _ _ R3 le3 k3
          | _ => exact hr2.elim
    | _ => exact hr.elim
end
section
variable {X : Cx}
def rSetL (K : PySem.W.Frag) (w : World) : List V → Hp → VK → Prop := fun xs H Q => ∃ (p : Addr) (ns : List Int), xs = [.ref p] ∧ SqL K H p (ns.map V.int) ∧ ns.length ≤ 1000 ∧
  ∀ (a : Addr) (c : Nat), H a = none → c ≤ ns.length → Q (.ref a) (upd H a (SetO w a (fun j => decide (j ∈ ns)) c))
theorem cr_setL (hc : X.calm = true) : CallR X (.type "set") (rSetL X.K X.w) := by
  intro pins s σ H xs us Q I r h
  obtain ⟨p, ns, rfl, hS, few, q⟩ := h
  rw [Vals.ref1 r]
  obtain ⟨its, rv, pl, hz⟩ := I.list hS
  refine set_of_list ns (I.ok.hd hc) pl.isList (by simpa using intsAre_of rv) (by unfold scanBound; omega) fun h' tk c R le k => ?_
  exact ⟨.ref _, _, I.laid (t' := tk) k (Nat.le_refl _) (setO_new R), rfl, q _ c (I.hok.fresh (Nat.le_refl _)) le⟩
end
end Rw

namespace Rw
open PySem PySem.Spec PyProof.Rows L2
/-! ### the law's own def, called where nothing is being shown (callerA), over a base that is known -/
def AtTop (P : Program) (w : World) (K : PySem.W.Frag) (mg : Str → Option Value) (base : Heap) (f : Addr) (fd : FuncData) (x : Str) (sp : Sp) : Prop :=
  ∀ (s : Shared) (H : Hp) (u : Value) (v : V) (Q : VK), Env0 P w K mg base callerA [] s H → BindsTo s fd ⟨[u], []⟩ [(x, u)] → RelV v u → sp [v] H Q E0 →
    codeAny (model P w) callerA (.call (.ref f) ⟨[u], []⟩) (CR CX0 [] P w H s Q E0) s
section
variable {P : Program} {w : World} {K : PySem.W.Frag} {mg : Str → Option Value} {base : Heap}
theorem atTop_of {f : Addr} {x q y : Str} {st : Stmt} {fd : FuncData} {N : List Str} {k : Nat} {sp : Sp} (F : Fun K x q st f fd) (S : FnScope N [y] (defScope st)) (room : Room (k + 1) callerA)
    (body : ∀ (cdv : Value) (s : Shared) (H : Hp) (v : V) (Q : VK), Room k (callerA.deeper (envOfC q (defScope st) s.heap.objs.size f cdv)) → sp [v] H Q E0 →
      ∃ t, PSs (cxOf CX0 P w K mg base N q (defScope st) f cdv callerA [] s H E0) (defBody st) t ∧ t { nx := fun _ H' => Q .non H', rt := Q } (start N [v]) H) : AtTop P w K mg base f fd y sp := by
  obtain ⟨oc, od, kV, doc, pm, an, cdv, ct, osl, rfl, lk, hcd⟩ := F.ex
  intro s H u v Q e0 hb r hsp
  have KX : K.In s.heap := e0.mod.kin.keeps (fun b o e => (e0.bs b o e).1)
  have lim : s.heap.NoLimit := e0.mod.nolimit.keeps (fun b o e => (e0.bs b o e).1)
  have kinds : ∀ z ∈ [y].zip [u], (defScope st).names.lookup z.1 = some .local ∨ ((defScope st).names.lookup z.1 = some .cell ∧ ((cellsFrom (s.heap.objs.size + 1) (defScope st).names []).lookup z.1).isSome = true) := fun ⟨n, v⟩ hz => by
    rcases S.par n (List.of_mem_zip hz).1 with g | g
    · exact Or.inl g
    · exact Or.inr ⟨g, PySem.W.cellsFrom_some _ _ _ (.inl g)⟩
  refine codeAny_call_function room.depth (KX _ _ lk) rfl S.co S.gen rfl (PySem.W.codeRec_of KX hcd) (hb _ _ _ _ (wpAny_newFunctionEnv_cells S.kind kinds fun env he s1 ic => ?_))
  subst he
  refine ⟨lim.keeps ic.toInCall.keep, codeAny_func ?_⟩
  obtain ⟨t, ht, hq⟩ := body cdv s H v Q (room.deeper _) hsp
  have I : Inv (cxOf CX0 P w K mg base N q (defScope st) f cdv callerA [] s H E0) [] (start N [v]) H s1 := inv_start S room.hd e0 rfl (.cons r .nil) ic
  refine wpAny_mono (ht.run [] s1 (start N [v]) H _ I hq) (fun fl s2 hs => ?_) fun e s2 hs => hs
  cases fl with
  | ret u2 =>
    obtain ⟨v2, σ2, H2, J, rv, z⟩ := hs
    exact ⟨v2, H2, J.os, J.bare, J.base, J.hok, rv, z⟩
  | next =>
    obtain ⟨σ2, H2, J, z⟩ := hs
    exact ⟨V.non, H2, J.os, J.bare, J.base, J.hok, rfl, z⟩
  | brk =>
    obtain ⟨_, _, _, z⟩ := hs
    exact False.elim z
  | cont =>
    obtain ⟨_, _, _, z⟩ := hs
    exact False.elim z
theorem law_at {mb : Str → Option Value} {fa a : Addr} {fd : FuncData} {x : Str} {sp : Sp} {s1 : Shared} {vs : List Value} {ns : List Int}
    (KX : K.In s1.heap) (hns : s1.heap.Ns mainGlobals mg) (hb : s1.heap.Ns builtinsNs mb) (hbb : ∀ x : Str, x ≠ "__name__" → mb x = bootBuiltins x) (lim : s1.heap.NoLimit) (hg : s1.gens = #[])
    (ha : s1.heap.get? a = some { cls := .type "list", data := .seq vs.toArray }) (hi : IntsAre vs ns) (hl : ns.length ≤ sizeLine)
    (F : ∀ base : Heap, K.In base → base.Ns mainGlobals mg → AtTop P w K mg base fa fd x sp) (hbind : ∀ (s : Shared) (u : Value), BindsTo s fd ⟨[u], []⟩ [(x, u)])
    (hsp : ∀ H : Hp, Only H → SqL K H a (ns.map V.int) → sp [.ref a] H (fun v _ => v = .bl true) E0) :
    codeAny (model P w) callerA (.call (.ref fa) ⟨[.ref a], []⟩) (fun r s' => r = .ok (.ret (.bool true)) ∧ OldK s1.heap s'.heap ∧ s'.os = s1.os ∧ AllBare s'.gens) s1 := by
  have core : ∀ H : Hp, Only H → SqL K H a (ns.map V.int) → HOk P w H s1.heap → (∀ b, H b ≠ none → b = a) → (H a ≠ none → K.lookup a = none) →
      codeAny (model P w) callerA (.call (.ref fa) ⟨[.ref a], []⟩) (fun r s' => r = .ok (.ret (.bool true)) ∧ OldK s1.heap s'.heap ∧ s'.os = s1.os ∧ AllBare s'.gens) s1 := by
    intro H hO hS hok hA hK
    have hid : ∀ {b : Addr} {o : Obj}, s1.heap.get? b = some o → H b = none → (hidT s1.heap H).get? b = some o := fun e n => hidT_get e n
    have only : ∀ {b : Addr} {u : HO}, H b = some u → b = a := fun {b u} z => hA b (by rw [z]; exact Option.some_ne_none _)
    have dict_no : ∀ {b : Addr} {o : Obj} {es : Array DictEntry} {ep : Nat}, s1.heap.get? b = some o → o.data = .dict es ep → H b = none := fun {b o es ep} e d => by
      cases z : H b with
      | none => rfl
      | some u =>
        have e' := only z
        subst e'
        rw [ha] at e; cases e
        exact nomatch (show Data.seq vs.toArray _ = Data.dict es ep from d)
    have ns_of : ∀ {b : Addr} {m : Str → Option Value}, s1.heap.Ns b m → (hidT s1.heap H).Ns b m := fun {b m} ⟨o, es, ep, e, d, r⟩ => ⟨o, es, ep, hid e (dict_no e d), d, r⟩
    have kb : K.In (hidT s1.heap H) := fun b o e => hid (KX b o e) (by
      cases z : H b with
      | none => rfl
      | some u =>
        have e' := only z
        subst e'
        rw [hK (by rw [z]; exact Option.some_ne_none _)] at e; cases e)
    have md : Mod K mg (hidT s1.heap H) := ⟨kb, ns_of hns, ⟨mb, ns_of hb, hbb⟩, let ⟨mc, h1, h2⟩ := lim; ⟨mc, ns_of h1, h2⟩⟩
    have e0 : Env0 P w K mg (hidT s1.heap H) callerA [] s1 H := ⟨rfl, md, fun b o e => of_hidT e, Nat.le_of_eq (hidT_size _ _), trivial, fun b z => absurd (show b ∈ ([] : List Addr) from z) List.not_mem_nil, hok, .of_eq hg⟩
    refine codeAny_mono (F _ kb (ns_of hns) s1 H (.ref a) (.ref a) _ e0 (hbind s1 (.ref a)) rfl (hsp H hO hS)) fun r s2 h => ?_
    cases r with
    | error e => exact False.elim h
    | ok fl =>
      cases fl with
      | next => exact False.elim h
      | brk => exact False.elim h
      | cont => exact False.elim h
      | ret u =>
        obtain ⟨v, H2, os, bare, un, hok2, r2, z⟩ := h
        obtain rfl : v = .bl true := z
        obtain rfl : u = Value.bool true := r2
        refine ⟨rfl, OldK.of_keep (fun b o e => ?_), os, bare⟩
        rcases hO b with z | ⟨ob, xs, z⟩
        · exact un.keep b o e z (fun y => absurd (show b ∈ ([] : List Addr) from y) List.not_mem_nil) List.not_mem_nil
        · obtain ⟨e1, _⟩ := hok b _ z
          obtain ⟨e2, _⟩ := hok2 b _ (un.frzs b ob _ z)
          rw [e] at e1; cases e1
          exact e2
  have rv := vals_ints hi
  have ln := hi.length
  cases hk : K.lookup a with
  | some o =>
    have e := KX a o hk
    rw [ha] at e
    cases e
    exact core (fun _ => none) (fun _ => .inl rfl) (.inr ⟨_, vs.toArray, _, hk, rfl, rfl, rfl, by rw [List.size_toArray, ln]; exact hl, by simpa using rv⟩) (fun b u z => nomatch (show (none : Option HO) = some u from z)) (fun b z => absurd rfl z) (fun z => absurd rfl z)
  | none =>
    refine core (upd (fun _ => none) a (.frz { cls := .type "list", data := .seq vs.toArray } (.lst (ns.map V.int)))) (fun b => ?_) (.inl (.inr ⟨{ cls := .type "list", data := .seq vs.toArray }, upd_same⟩)) (fun b u z => ?_) (fun b z => ?_) (fun _ => hk)
    · by_cases e : b = a
      · rw [e]; exact .inr ⟨_, _, upd_same⟩
      · exact .inl (upd_ne e)
    · by_cases e : b = a
      · subst e
        rw [upd_same] at z
        cases z
        exact ⟨ha, by rw [List.length_map]; exact hl, vs, _, rv, ha⟩
      · rw [upd_ne e] at z
        cases z
    · by_cases e : b = a
      · exact e
      · exact absurd (upd_ne e) z
end
/-! what k_head leaves, from the law's promise -/
theorem walk_top {l : PySem.W.OpenLaw} {n : Nat} {q : Program} {loose : List Str} {XP : (Str → Option Value) → Heap → Prop} {YP : World → Heap → Prop} {d : DefRec} {K : Params → PySem.W.Frag} {sp : World → Sp} {x : Str}
    (hn : l.most = some n) (hn2 : n ≤ sizeLine) (hdf : d.params.defaults = []) (hY : ∀ (w : World) (h : Heap), YP w h → (K w.params).In h)
    (F : ∀ (w : World) (mg : Str → Option Value) (fa : Addr) (h : Heap), (K w.params).In h → h.Ns mainGlobals mg → mg d.name = some (.ref fa) →
      ∃ fd : FuncData, (∀ (s : Shared) (u : Value), BindsTo s fd ⟨[u], []⟩ [(x, u)]) ∧ ∀ base : Heap, (K w.params).In base → base.Ns mainGlobals mg → AtTop l.prog w (K w.params) mg base fa fd x (sp w))
    (hsp : ∀ (w : World) (H : Hp) (a : Addr) (ns : List Int), ns.length ≤ n → Only H → SqL (K w.params) H a (ns.map V.int) → sp w [.ref a] H (fun v _ => v = .bl true) E0) :
    PySem.W.WalkO q loose XP YP l.row.toRowW d [] (fun f vs => PySem.call f vs) := by
  refine Att.attach_call hn hdf (fun w s0 s1 mg mb fa o pm cd doc a vs ns G Y ho hd hcd hmg hobj hin hlen hg => ?_)
  have KX := hY w _ Y
  obtain ⟨fd, hb, hF⟩ := F w mg fa _ KX G.T.g hmg
  exact law_at KX G.T.g G.T.b G.T.builtins G.T.nolimit hg hobj hin (Nat.le_trans hlen hn2) hF hb (fun H hO hS => hsp w H a ns hlen hO hS)
end Rw

namespace Rw
open PySem PySem.Spec PyProof.Rows L2
/-! ### the text -/
def topS (i : Nat) : Stmt := PySem.Challenge.pw_ropewarren_k07_houses_halved.main.body.getD i (.Pass ⟨0, 0, 0, 0⟩)
/-! ### what stands at the top: a def that keeps a promise, built-ins that are still theirs -/
def Can (P : Program) (w : World) (K : PySem.W.Frag) (mg : Str → Option Value) (base : Heap) (x : Str) (ps : List Str) (k : Nat) (sp : Sp) : Prop :=
  ∃ f fd, FnOk P w K mg base CX0 k f fd ps sp ∧ mg x = some (.ref f) ∧ PySem.W.keepIn K (.ref f) = true ∧ Binds K fd ps []
def Has (K : PySem.W.Frag) (mg : Str → Option Value) (x : Str) (st : Stmt) : Prop := ∃ f fd, Fun K x x st f fd ∧ mg x = some (.ref f)
structure Blt (mg : Str → Option Value) : Prop where
  isi : mg "isinstance" = none
  int_ : mg "int" = none
  bool_ : mg "bool" = none
  tuple_ : mg "tuple" = none
  list_ : mg "list" = none
  len_ : mg "len" = none
  abs_ : mg "abs" = none
  sorted_ : mg "sorted" = none
  set_ : mg "set" = none
  range_ : mg "range" = none
  min_ : mg "min" = none
  str_ : mg "str" = none
  reversed_ : mg "reversed" = none
  repr_ : mg "repr" = none
  enum_ : mg "enumerate" = none
  max_ : mg "max" = none
  sum_ : mg "sum" = none
  all_ : mg "all" = none
  any_ : mg "any" = none
theorem pe_can {X : Cx} {x : Str} {ps : List Str} {k : Nat} {sp : Sp} {e : Expr} {es : List Expr} {t : TA} {p pos : Pos} (C : Can X.prog X.w X.K X.mg X.base x ps k sp) (hr : Room k X.A) (hg : Gl X x)
    (ha : PA X (e :: es) t) (hdb : (x == ("__debug__" : Str)) = false := by decide) (he : starEach (e :: es) X.env = (false, eval e X.env) :: starEach es X.env := by rfl) (hpl : (backTo pos (starEach es X.env)).any (·.1) = false := by rfl) :
    PE X (.Call (.Name x p) (e :: es) [] pos) (tCall sp [] E0 t) := by
  obtain ⟨f, fd, F, gm, kp, b⟩ := C
  exact pe_call F hr hg gm kp b .nil pass0 ha hdb he hpl
/-! ### isinstance of data -/
def tn : PyData → String
  | .none => "NoneType"
  | .bool _ => "bool"
  | .int _ => "int"
  | .str _ => "str"
  | .list _ => "list"
  | .tuple _ => "tuple"
  | .dict _ => "dict"
theorem Dt.ty {K : PySem.W.Frag} {av : List Addr} {H : Hp} {v : V} {d : PyData} (x : Dt av H v d) : TyX K H v (.type (tn d)) := by
  cases x with
  | non => exact .base .non
  | bl b => exact .base (.bl b)
  | int i => exact .base (.int i)
  | str y => exact .base (.str y)
  | lst _ e _ => exact .base (.lst e)
  | tup _ e _ => exact .base (.tup e)
  | dct _ e => exact .base (.dK e)
def aInt : PyData → Bool
  | .int _ => true
  | .bool _ => true
  | _ => false
def aBool : PyData → Bool
  | .bool _ => true
  | _ => false
def aTup : PyData → Bool
  | .tuple _ => true
  | _ => false
theorem kit_int (d : PyData) : kitB (tn d) "int" = some (aInt d) := by
  cases d <;> first | exact (show kitB "NoneType" "int" = some false by decide +kernel) | exact (show kitB "bool" "int" = some true by decide +kernel) | exact (show kitB "int" "int" = some true by decide +kernel) | exact (show kitB "str" "int" = some false by decide +kernel) | exact (show kitB "list" "int" = some false by decide +kernel) | exact (show kitB "tuple" "int" = some false by decide +kernel) | exact (show kitB "dict" "int" = some false by decide +kernel)
theorem kit_bool (d : PyData) : kitB (tn d) "bool" = some (aBool d) := by
  cases d <;> first | exact (show kitB "NoneType" "bool" = some false by decide +kernel) | exact (show kitB "bool" "bool" = some true by decide +kernel) | exact (show kitB "int" "bool" = some false by decide +kernel) | exact (show kitB "str" "bool" = some false by decide +kernel) | exact (show kitB "list" "bool" = some false by decide +kernel) | exact (show kitB "tuple" "bool" = some false by decide +kernel) | exact (show kitB "dict" "bool" = some false by decide +kernel)
theorem kit_tup (d : PyData) : kitB (tn d) "tuple" = some (aTup d) := by
  cases d <;> first | exact (show kitB "NoneType" "tuple" = some false by decide +kernel) | exact (show kitB "bool" "tuple" = some false by decide +kernel) | exact (show kitB "int" "tuple" = some false by decide +kernel) | exact (show kitB "str" "tuple" = some false by decide +kernel) | exact (show kitB "list" "tuple" = some false by decide +kernel) | exact (show kitB "tuple" "tuple" = some true by decide +kernel) | exact (show kitB "dict" "tuple" = some false by decide +kernel)
def rIs (T : String) (f : PyData → Bool) : List V → Hp → VK → Prop := fun xs H Q => ∃ v d av, xs = [v, .ty T] ∧ Dt av H v d ∧ Q (.bl (f d)) H
theorem call_isD {X : Cx} {T : String} {f : PyData → Bool} (hf : ∀ d, kitB (tn d) T = some (f d)) : CallR X (.builtin "isinstance") (rIs T f) := by
  intro pins s σ H xs us Q I r h
  obtain ⟨v, d, av, e, hd, q⟩ := h
  exact call_isi pins s σ H xs us Q I r ⟨v, .ty T, .type (tn d), .type T, f d, e, .ty T, hd.ty, kit_ty (hf d), q⟩
end Rw

namespace Rw
open PySem PySem.Spec PyProof.Rows L2
/-! ### the program's own defs -/
section
variable {P : Program} {w : World} {K : PySem.W.Frag} {mg : Str → Option Value} {base : Heap}
abbrev sWhole : Stmt := topS 13
abbrev sWithin : Stmt := topS 14
abbrev sTupOf : Stmt := topS 23
def whole : PyData → Bool
  | .int _ => true
  | _ => false
def within (d : PyData) (lo hi : Int) : Bool := match d with
  | .int i => decide (lo ≤ i) && decide (i ≤ hi)
  | _ => false
def tupOf (d : PyData) (n : Int) : Bool := match d with
  | .tuple ds => decide ((ds.length : Int) = n)
  | _ => false
theorem scWhole : FnScope ["thing"] ["thing"] (defScope sWhole) := ⟨rfl, rfl, rfl, by decide +kernel, rfl, by decide +kernel, by decide +kernel⟩
theorem scWithin : FnScope ["thing", "low", "high"] ["thing", "low", "high"] (defScope sWithin) := ⟨rfl, rfl, rfl, by decide +kernel, rfl, by decide +kernel, by decide +kernel⟩
theorem scTupOf : FnScope ["thing", "many"] ["thing", "many"] (defScope sTupOf) := ⟨rfl, rfl, rfl, by decide +kernel, rfl, by decide +kernel, by decide +kernel⟩
def spWhole : Sp := fun vs H Q _ => ∃ (v : V) (d : PyData) (av : List Addr), vs = [v] ∧ Dt av H v d ∧ Q (.bl (whole d)) H
theorem ok_whole (h : Has K mg "is_whole" sWhole) (B : Blt mg) : Can P w K mg base "is_whole" ["thing"] 1 spWhole := by
  obtain ⟨f, fd, F, g⟩ := h
  refine ⟨f, fd, F.ok (k := 0) scWhole (fun vs H Q E h => ?_) (fun cdv A outer s H vs Q E hr h => ?_), g, F.kp, F.binds fun _ _ _ _ _ _ us hl => match us, hl with | [_], _ => rfl⟩
  · obtain ⟨v, d, av, rfl, _⟩ := h
    rfl
  · obtain ⟨v, d, av, rfl, hd, q⟩ := h
    refine ⟨_, pss_one (ps_ret (pe_and (pe_callB (call_isD kit_int) (by rfl) B.isi boot_isinstance (pa_cons (pv 0) (pa_cons (pe_bltn (v := .ty "int") (by rfl) B.int_ boot_int rfl) pa_nil)))
      (pe_one (pe_not (pe_callB (call_isD kit_bool) (by rfl) B.isi boot_isinstance (pa_cons (pv 0) (pa_cons (pe_bltn (v := .ty "bool") (by rfl) B.bool_ boot_bool rfl) pa_nil))))))), ?_⟩
    refine ⟨v, rfl, v, d, av, rfl, hd, _, rfl, ite2 (fun e => ?_) (fun e => ?_)⟩
    · refine ⟨v, rfl, v, d, av, rfl, hd, _, rfl, ?_⟩
      have z : (!aBool d) = whole d := by cases d <;> first | rfl | cases e
      rw [z]; exact q
    · have z : false = whole d := by cases d <;> first | rfl | exact absurd rfl e
      rw [z]; exact q
def spWithin : Sp := fun vs H Q _ => ∃ (v : V) (d : PyData) (av : List Addr) (lo hi : Int), vs = [v, .int lo, .int hi] ∧ Dt av H v d ∧ Q (.bl (within d lo hi)) H
theorem ok_within (h : Has K mg "is_within" sWithin) (C : Can P w K mg base "is_whole" ["thing"] 1 spWhole) : Can P w K mg base "is_within" ["thing", "low", "high"] 2 spWithin := by
  obtain ⟨f, fd, F, g⟩ := h
  refine ⟨f, fd, F.ok (k := 1) scWithin (fun vs H Q E h => ?_) (fun cdv A outer s H vs Q E hr h => ?_), g, F.kp, F.binds fun _ _ _ _ _ _ us hl => match us, hl with | [_, _, _], _ => rfl⟩
  · obtain ⟨v, d, av, lo, hi, rfl, _⟩ := h
    rfl
  · obtain ⟨v, d, av, lo, hi, rfl, hd, q⟩ := h
    refine ⟨_, pss_one (ps_ret (pe_and (pe_can C hr (by rfl) (pa_cons (pv 0) pa_nil)) (pe_one (pe_chain op_le op_le (pv 1) (pv 0) (pv 2))))), ?_⟩
    refine ⟨v, rfl, v, d, av, rfl, hd, _, rfl, ite2 (fun e => ?_) (fun e => ?_)⟩
    · cases hd <;> first | (cases e; done) | skip
      rename_i i
      refine ⟨.int lo, rfl, .int i, rfl, lo, i, rfl, rfl, _, rfl, ite2 (fun e1 => ?_) (fun e1 => ?_)⟩
      · refine ⟨.int hi, rfl, i, hi, rfl, rfl, ?_⟩
        have z : decide (i ≤ hi) = within (.int i) lo hi := by
          show _ = (decide (lo ≤ i) && decide (i ≤ hi))
          rw [e1, Bool.true_and]
        rw [← z] at q; exact q
      · have z : false = within (.int i) lo hi := by
          show _ = (decide (lo ≤ i) && decide (i ≤ hi))
          rw [show decide (lo ≤ i) = false from Bool.eq_false_iff.mpr e1, Bool.false_and]
        rw [z]; exact q
    · have z : false = within d lo hi := by cases d <;> first | rfl | exact absurd rfl e
      rw [z]; exact q
def spTupOf : Sp := fun vs H Q _ => ∃ (v : V) (d : PyData) (av : List Addr) (n : Int), vs = [v, .int n] ∧ Dt av H v d ∧ Q (.bl (tupOf d n)) H
theorem ok_tupOf (h : Has K mg "is_tuple_of" sTupOf) (B : Blt mg) : Can P w K mg base "is_tuple_of" ["thing", "many"] 1 spTupOf := by
  obtain ⟨f, fd, F, g⟩ := h
  refine ⟨f, fd, F.ok (k := 0) scTupOf (fun vs H Q E h => ?_) (fun cdv A outer s H vs Q E hr h => ?_), g, F.kp, F.binds fun _ _ _ _ _ _ us hl => match us, hl with | [_, _], _ => rfl⟩
  · obtain ⟨v, d, av, n, rfl, _⟩ := h
    rfl
  · obtain ⟨v, d, av, n, rfl, hd, q⟩ := h
    refine ⟨_, pss_one (ps_ret (pe_and (pe_callB (call_isD kit_tup) (by rfl) B.isi boot_isinstance (pa_cons (pv 0) (pa_cons (pe_bltn (v := .ty "tuple") (by rfl) B.tuple_ boot_tuple rfl) pa_nil)))
      (pe_one (pe_cmpR op_eq (pe_callB call_len_seq (by rfl) B.len_ PySem.boot_len (pa_cons (pv 0) pa_nil)) (pv 1) (nomark _))))), ?_⟩
    refine ⟨v, rfl, v, d, av, rfl, hd, _, rfl, ite2 (fun e => ?_) (fun e => ?_)⟩
    · cases hd <;> first | (cases e; done) | skip
      rename_i a xs ds na ea hs
      refine ⟨.ref a, rfl, a, xs, rfl, .inr (SqT.of ea), .int n, rfl, rfl, ?_⟩
      have z : decide (V.int (xs.length : Int) = V.int n) = tupOf (.tuple ds) n := by
        show _ = decide ((ds.length : Int) = n)
        rw [hs.len]
        exact decide_eq_decide.mpr ⟨fun y => V.int.inj y, fun y => by rw [y]⟩
      rw [z]; exact q
    · have z : false = tupOf d n := by cases d <;> first | rfl | exact absurd rfl e
      rw [z]; exact q
end
end Rw

namespace Rw
open PySem PySem.Spec PyProof.Rows L2
/-! ### places of a house, by data -/
def lenOf : PyData → Int
  | .tuple (_ :: _ :: .int l :: _) => l
  | _ => 0
def PipesOk (ps : List PyData) : Prop := ∀ p ∈ ps, ∃ a b l r, p = .tuple (a :: b :: .int l :: r)
def houseD (n : Int) (ps : List PyData) : PyData := .tuple [.int n, .tuple ps]
end Rw

namespace Rw
open PySem PySem.Spec PyProof.Rows L2
theorem Keep.upd {av : List Addr} {H H1 : Hp} {p : Addr} {o : HO} (n : H p = none) (k : Keep av H H1) : Keep av H (upd H1 p o) := fun b z e nb => by
  rw [upd_ne (ne_of_none e n)]; exact k b z e nb
theorem Keep.set {av : List Addr} {H H1 : Hp} {p : Addr} {o : HO} (n : p ∈ av) (k : Keep av H H1) : Keep av H (L2.upd H1 p o) := k.trans (Keep.put n)
theorem Keep.same {H H1 : Hp} (k : Keep [] H H1) : Same H H1 := fun b o e => k b o e List.not_mem_nil
theorem Keep.of {av : List Addr} {H H1 : Hp} (k : Keep [] H H1) : Keep av H H1 := k.mono fun _ m => nomatch m
theorem cut_to (xs : List V) (k : Nat) : cutV xs none (some (k : Int)) = xs.take k := by
  unfold cutV
  rw [HT.sIx_none, HT.sIx_nat, List.drop_zero, Nat.sub_zero]
  by_cases h : k ≤ xs.length
  · rw [Nat.min_eq_left h]
  · rw [Nat.min_eq_right (by omega), List.take_of_length_le (Nat.le_refl _), List.take_of_length_le (by omega)]
theorem cut_from (xs : List V) (k : Nat) : cutV xs (some (k : Int)) none = xs.drop k := by
  unfold cutV
  rw [HT.sIx_none, HT.sIx_nat]
  by_cases h : k ≤ xs.length
  · rw [Nat.min_eq_left h, List.take_of_length_le (by rw [List.length_drop]; exact Nat.le_refl _)]
  · rw [Nat.min_eq_right (by omega), List.drop_of_length_le (Nat.le_refl _), List.drop_of_length_le (show xs.length ≤ k by omega), List.take_nil]
/-! ### the deck: its cells, its rests, its count (at most b) -/
structure Deck (H : Hp) (D C R : Addr) (b : Int) : Prop where
  ex : ∃ (ns rs : List Int) (c : Int), H D = some (.lst [.ref C, .ref R, .int c]) ∧ H C = some (.lst (ns.map V.int)) ∧ H R = some (.lst (rs.map V.int)) ∧
    rs.length = ns.length ∧ 0 < ns.length ∧ ns.length ≤ 100 ∧ (∀ n ∈ ns, 0 ≤ n) ∧ (∀ r ∈ rs, 0 ≤ r) ∧ 0 ≤ c ∧ c ≤ b
  cr : C ≠ R
  dc : D ≠ C
  dr : D ≠ R
theorem Deck.mono {H : Hp} {D C R : Addr} {b b' : Int} (x : Deck H D C R b) (h : b ≤ b') : Deck H D C R b' := by
  obtain ⟨⟨ns, rs, c, e1, e2, e3, e4, e5, e6, e7, e8, e9, e10⟩, n1, n2, n3⟩ := x
  exact ⟨⟨ns, rs, c, e1, e2, e3, e4, e5, e6, e7, e8, e9, by omega⟩, n1, n2, n3⟩
theorem Deck.keep {H H' : Hp} {D C R : Addr} {b : Int} (x : Deck H D C R b) (k : Keep [] H H') : Deck H' D C R b := by
  obtain ⟨⟨ns, rs, c, e1, e2, e3, r⟩, n1, n2, n3⟩ := x
  exact ⟨⟨ns, rs, c, k _ _ e1 List.not_mem_nil, k _ _ e2 List.not_mem_nil, k _ _ e3 List.not_mem_nil, r⟩, n1, n2, n3⟩
/-! a store elsewhere leaves the deck -/
theorem Deck.other {H : Hp} {D C R p : Addr} {b : Int} {o : HO} (x : Deck H D C R b) (h1 : p ≠ D) (h2 : p ≠ C) (h3 : p ≠ R) : Deck (upd H p o) D C R b := by
  obtain ⟨⟨ns, rs, c, e1, e2, e3, r⟩, n1, n2, n3⟩ := x
  exact ⟨⟨ns, rs, c, by rw [upd_ne h1.symm]; exact e1, by rw [upd_ne h2.symm]; exact e2, by rw [upd_ne h3.symm]; exact e3, r⟩, n1, n2, n3⟩
theorem Deck.ne {H : Hp} {D C R p : Addr} {b : Int} (x : Deck H D C R b) (n : H p = none) : p ≠ D ∧ p ≠ C ∧ p ≠ R := by
  obtain ⟨⟨ns, rs, c, e1, e2, e3, r⟩, _⟩ := x
  exact ⟨(ne_of_none e1 n).symm, (ne_of_none e2 n).symm, (ne_of_none e3 n).symm⟩
theorem Deck.new {H : Hp} {D C R p : Addr} {b : Int} {o : HO} (x : Deck H D C R b) (n : H p = none) : Deck (upd H p o) D C R b :=
  x.other (x.ne n).1 (x.ne n).2.1 (x.ne n).2.2
section
variable {P : Program} {w : World} {K : PySem.W.Frag} {mg : Str → Option Value} {base : Heap}
abbrev sDeck : Stmt := topS 45
theorem scDeck : FnScope ["_law_script", "_law_cells", "_law_cell"] ["_law_script"] (defScope sDeck) := ⟨rfl, rfl, rfl, by decide +kernel, rfl, by decide +kernel, by decide +kernel⟩
def spDeck (K : PySem.W.Frag) : Sp := fun vs H Q _ => ∃ (a : Addr) (ns : List Int), vs = [.ref a] ∧ SqL K H a (ns.map V.int) ∧ ns.length ≤ 63 ∧
  ∀ H' D C R, Keep [] H H' → H D = none → H C = none → H R = none → Deck H' D C R 0 → Q (.ref D) H'
theorem abs_nn (i : Int) : 0 ≤ (if i < 0 then -i else i) := by split <;> omega
theorem ok_deck (h : Has K mg "_law_deck" sDeck) (B : Blt mg) : Can P w K mg base "_law_deck" ["_law_script"] 1 (spDeck K) := by
  obtain ⟨f, fd, F, g⟩ := h
  refine ⟨f, fd, F.ok (k := 0) scDeck (fun vs H Q E h => ?_) (fun cdv A outer s H vs Q E hr h => ?_), g, F.kp, F.binds fun _ _ _ _ _ _ us hl => match us, hl with | [_], _ => rfl⟩
  · obtain ⟨a, ns, rfl, _⟩ := h
    rfl
  · obtain ⟨a, ns, rfl, hS, hlen, q⟩ := h
    refine ⟨_, pss_cons (ps_set (i := 1) scDeck.nd rfl (.inl rfl) (pe_op op_cat
        (pe_lc (own := [("_law_cell", 2)]) (g := gName 2) (tt := tYes) rfl scDeck.nd (pi_list (pe_slice sl_list (pv 0) po_none (po_some pe_int))) (blkOk_by (N := ["_law_script", "_law_cells", "_law_cell"]) (sc := defScope sDeck) (by decide +kernel))
          (fun _ _ _ _ _ => pg_name (i := 2) scDeck.nd rfl (Or.inl rfl)) (fun _ _ _ _ _ => pts_nil) (fun _ _ _ _ _ => pe_callB call_abs (by rfl) B.abs_ boot_abs (pa_cons (pv 2) pa_nil)))
        (pe_op op_rep (pe_lst (pa_cons pe_int pa_nil)) (pe_callTy call_int1 (by rfl) B.int_ boot_int (pa_cons (pe_cmpR op_eq (pe_callB call_len_seq (by rfl) B.len_ PySem.boot_len (pa_cons (pv 0) pa_nil)) pe_int (nomark _)) pa_nil)))))
      (pss_one (ps_ret (pe_lst (pa_cons (pv 1) (pa_cons
        (pe_lc (own := [("_law_cell", 2)]) (g := gName 2) (tt := tYes) rfl scDeck.nd (pi_list (pv 1)) (blkOk_by (N := ["_law_script", "_law_cells", "_law_cell"]) (sc := defScope sDeck) (by decide +kernel))
          (fun _ _ _ _ _ => pg_name (i := 2) scDeck.nd rfl (Or.inl rfl)) (fun _ _ _ _ _ => pts_nil) (fun _ _ _ _ _ => pe_op op_mul (pv 2) (pe_callTy call_int1 (by rfl) B.int_ boot_int (pa_cons (pe_cmpR op_ge (pv 2) (pe_op op_pow pe_int pe_int) (nomark _)) pa_nil))))
        (pa_cons pe_int pa_nil)))))), ?_⟩
    refine ⟨.ref a, rfl, 62, rfl, a, _, rfl, hS, fun c nc => ?_⟩
    rw [show cutV (ns.map V.int) none (some 62) = (ns.take 62).map V.int by rw [show (62 : Int) = ((62 : Nat) : Int) from rfl, cut_to, List.map_take]]
    refine ⟨c, rfl, ⟨_, SqL.of upd_same⟩, fun D nD => ?_⟩
    have k1 : Keep [] H (upd H c (.lst ((ns.take 62).map V.int))) := Keep.new nc
    refine lc_list (K := K) (a := c) (xs := (ns.take 62).map V.int)
      (fun i G => Keep [] (upd H c (.lst ((ns.take 62).map V.int))) G ∧ ∃ cs : List Int, cs.length = i ∧ (∀ n ∈ cs, 0 ≤ n) ∧ G D = some (.lst (cs.map V.int)))
      ⟨Keep.new nD, [], rfl, fun _ m => absurd m List.not_mem_nil, upd_same⟩ (fun i G _ p => p.1.same.seq (SqL.of upd_same)) (fun i x G hx p => ?_) (fun G p => ?_)
    · obtain ⟨k2, cs, l2, c2, e2⟩ := p
      rw [List.getElem?_map] at hx
      obtain ⟨n, hn, rfl⟩ := Option.map_eq_some_iff.mp hx
      have hi : i < 62 := by
        have := (List.getElem?_eq_some_iff.mp hn).1
        rw [List.length_take] at this; omega
      refine ⟨rfl, .int n, rfl, n, rfl, cs.map V.int, e2, by rw [List.length_map, l2]; exact small1000 (by omega), k2.upd nD, cs ++ [if n < 0 then -n else n], by rw [List.length_append, l2]; rfl, fun z hz => ?_, by rw [upd_same, List.map_append]; rfl⟩
      rcases List.mem_append.mp hz with hz | hz
      · exact c2 z hz
      · rw [List.mem_singleton.mp hz]; exact abs_nn n
    · obtain ⟨k2, cs, l2, c2, e2⟩ := p
      have l3 : cs.length = min 62 ns.length := by rw [l2, List.length_map, List.length_take]
      have k3 : Keep [] H G := k1.trans k2
      refine ⟨by decide, fun z nz => ?_⟩
      have e3 : (upd G z (.lst [.int 0])) D = some (.lst (cs.map V.int)) := by rw [upd_ne (ne_of_none e2 nz)]; exact e2
      have k4 : Keep [] H (upd G z (.lst [.int 0])) := k3.trans (Keep.new nz)
      refine ⟨.ref a, rfl, a, _, rfl, .inl (k4.same.seq hS), rfl, .inr ⟨_, rfl, z, _, _, rfl, rfl, upd_same, ?_, ?_, ?_, fun y ny => ?_⟩⟩
      · split <;> decide
      · split <;> decide
      · split <;> decide
      · have k5 := k4.trans (Keep.new (av := []) (o := .lst (List.replicate (Int.toNat (if decide (V.int ((ns.map V.int).length : Int) = V.int 0) = true then 1 else 0)) [V.int 0]).flatten) ny)
        obtain ⟨zs, ez, lz, pz⟩ : ∃ zs : List Int, (List.replicate (Int.toNat (if decide (V.int ((ns.map V.int).length : Int) = V.int 0) = true then 1 else 0)) [V.int 0]).flatten = zs.map V.int ∧ zs.length ≤ 1 ∧ (∀ n ∈ zs, 0 ≤ n) ∧ (ns.length = 0 → zs.length = 1) := by
          by_cases h0 : ns.length = 0
          · refine ⟨[0], ?_, by decide, fun n hn => by rw [List.mem_singleton.mp hn]; decide, fun _ => rfl⟩
            rw [List.length_map, h0]; rfl
          · refine ⟨[], ?_, by decide, (fun n hn => nomatch hn), fun e => absurd e h0⟩
            rw [if_neg]
            · rfl
            · rw [decide_eq_true_eq, List.length_map]
              intro e
              have := V.int.inj e
              omega
        rw [ez] at k5 ⊢
        refine ⟨D, y, _, _, rfl, rfl, by rw [upd_ne (ne_of_none e3 ny)]; exact e3, upd_same, ?_, fun C nC => ?_⟩
        · rw [List.length_map, List.length_map]
          exact Nat.le_of_lt (small1000 (by omega))
        · rw [← List.map_append]
          have k6 := k5.trans (Keep.new (av := []) (o := .lst ((cs ++ zs).map V.int)) nC)
          have hall : ∀ n ∈ cs ++ zs, 0 ≤ n := fun n hn => (List.mem_append.mp hn).elim (c2 n) (pz.1 n)
          have hl1 : (cs ++ zs).length ≤ 100 := by rw [List.length_append]; omega
          have hl0 : 0 < (cs ++ zs).length := by
            rw [List.length_append]
            by_cases h0 : ns.length = 0
            · have := pz.2 h0; omega
            · omega
          generalize cs ++ zs = ms at *
          generalize hG1 : upd _ C _ = G1 at k6 ⊢
          have eC : G1 C = some (.lst (ms.map V.int)) := by rw [← hG1]; exact upd_same
          have nHC : H C = none := by
            cases hq : H C with
            | none => rfl
            | some o =>
              have := k5.same C o hq
              rw [nC] at this; cases this
          refine ⟨.ref C, rfl, .ref C, rfl, C, rfl, ⟨_, SqL.of eC⟩, fun R nR => ?_⟩
          refine lc_list (K := K) (a := C) (xs := ms.map V.int)
            (fun i J => Keep [] G1 J ∧ ∃ rs : List Int, rs.length = i ∧ (∀ n ∈ rs, 0 ≤ n) ∧ J R = some (.lst (rs.map V.int)))
            ⟨Keep.new nR, [], rfl, fun _ m => absurd m List.not_mem_nil, upd_same⟩ (fun i J _ p => p.1.same.seq (SqL.of eC)) (fun i x J hx p => ?_) (fun J p => ?_)
          · obtain ⟨k7, rs, l7, c7, e7⟩ := p
            rw [List.getElem?_map] at hx
            obtain ⟨n, hn, rfl⟩ := Option.map_eq_some_iff.mp hx
            have hi : i < ms.length := (List.getElem?_eq_some_iff.mp hn).1
            have h0n : 0 ≤ n := hall n (List.mem_of_getElem? hn)
            refine ⟨rfl, .int n, rfl, .int n, rfl, 10, 18, rfl, rfl, ⟨by decide, by decide, by decide⟩, n, _, rfl, rfl, .inr ⟨_, rfl, n, _, rfl, rfl, .inr ?_, rs.map V.int, e7, by rw [List.length_map, l7]; exact small1000 (by omega), k7.upd nR, rs ++ [n * (if decide (n ≥ 10 ^ 18) = true then 1 else 0)], by rw [List.length_append, l7]; rfl, fun z hz => ?_, by rw [upd_same, List.map_append]; rfl⟩⟩
            · constructor <;> (split <;> decide)
            · rcases List.mem_append.mp hz with hz | hz
              · exact c7 z hz
              · rw [List.mem_singleton.mp hz]
                split <;> omega
          · obtain ⟨k7, rs, l7, c7, e7⟩ := p
            have eC2 : J C = some (.lst (ms.map V.int)) := k7.same _ _ eC
            refine ⟨show 3 ≤ sizeLine by decide, fun D2 nD2 => ?_⟩
            have k8 := k6.trans (k7.trans (Keep.new (av := []) (o := .lst [.ref C, .ref R, .int 0]) nD2))
            have fr : ∀ {p : Addr} {J' : Hp}, J' p = none → Keep [] H J' → H p = none := fun {p J'} n k => by
              cases hq : H p with
              | none => rfl
              | some o => rw [k.same p o hq] at n; cases n
            refine q _ D2 C R k8 (fr nD2 (k6.trans k7)) nHC (fr nR k6) ⟨⟨ms, rs, 0, upd_same, ?_, ?_, ?_, hl0, hl1, hall, c7, by decide, by decide⟩, ?_, ?_, ?_⟩
            · rw [upd_ne (ne_of_none eC2 nD2)]; exact eC2
            · rw [upd_ne (ne_of_none e7 nD2)]; exact e7
            · rw [l7, List.length_map]
            · exact ne_of_none eC nR
            · exact (ne_of_none eC2 nD2).symm
            · exact (ne_of_none e7 nD2).symm
end
end Rw

namespace Rw
open PySem PySem.Spec PyProof.Rows L2
theorem ixN_at {n : Nat} {i : Int} (h0 : 0 ≤ i) (h : i < n) : ixN n i = some i.toNat := by
  unfold ixN
  rw [if_pos h0]
  first | rw [if_pos (show i.toNat < n by omega)] | (rw [if_pos (show i < n by omega)])
theorem set_map (rs : List Int) (j : Nat) (x : Int) : (rs.map V.int).set j (.int x) = (rs.set j x).map V.int := by rw [List.map_set]
section
variable {P : Program} {w : World} {K : PySem.W.Frag} {mg : Str → Option Value} {base : Heap}
abbrev sNext : Stmt := topS 46
theorem scNext : FnScope ["_law_deck_here", "_law_many", "_law_cells", "_law_rests", "_law_count", "_law_spot", "_law_digit", "_law_mixed"] ["_law_deck_here", "_law_many"] (defScope sNext) := ⟨rfl, rfl, rfl, by decide +kernel, rfl, by decide +kernel, by decide +kernel⟩
def spNext : Sp := fun vs H Q _ => ∃ (D C R : Addr) (b m : Int), vs = [.ref D, .int m] ∧ 1 ≤ m ∧ m ≤ 100000000000000 ∧ Deck H D C R b ∧ b ≤ 1000000000 ∧
  ∀ H' k, Keep [D, R] H H' → Deck H' D C R (b + 1) → 0 ≤ k → k < m → Q (.int k) H'
theorem ok_next (h : Has K mg "_law_next" sNext) (B : Blt mg) : Can P w K mg base "_law_next" ["_law_deck_here", "_law_many"] 1 spNext := by
  obtain ⟨f, fd, F, g⟩ := h
  refine ⟨f, fd, F.ok (k := 0) scNext (fun vs H Q E h => ?_) (fun cdv A outer s H vs Q E hr h => ?_), g, F.kp, F.binds fun _ _ _ _ _ _ us hl => match us, hl with | [_, _], _ => rfl⟩
  · obtain ⟨D, C, R, b, m, rfl, _⟩ := h
    rfl
  · obtain ⟨D, C, R, b, m, rfl, m1, m2, dk, hb, q⟩ := h
    obtain ⟨⟨ns, rs, c, eD, eC, eR, lr, l0, l1, pn, pr, c0, cb⟩, nCR, nDC, nDR⟩ := dk
    refine ⟨_, pss_cons (ps_asg (pv 0) (pg_unl rfl (pgs_cons (pg_name (i := 2) scNext.nd rfl (.inl rfl)) (pgs_cons (pg_name (i := 3) scNext.nd rfl (.inl rfl)) (pgs_cons (pg_name (i := 4) scNext.nd rfl (.inl rfl)) pgs_nil)))))
      (pss_cons (ps_asg (pe_op op_add (pv 4) pe_int) (pg_sub (pv 0) pe_int set_list))
      (pss_cons (ps_set (i := 5) scNext.nd rfl (.inl rfl) (pe_op op_mod (pv 4) (pe_callB call_len_seq (by rfl) B.len_ PySem.boot_len (pa_cons (pv 2) pa_nil))))
      (pss_cons (ps_if (pt_cmpR op_gt (pe_ix ix_list (pv 3) (pv 5) (fun _ _ => rfl)) pe_int (nomark _))
        (pss_cons (ps_set (i := 6) scNext.nd rfl (.inl rfl) (pe_op op_mod (pe_ix ix_list (pv 3) (pv 5) (fun _ _ => rfl)) (pv 1)))
        (pss_cons (ps_asg (pe_op op_fdivW (pe_ix ix_list (pv 3) (pv 5) (fun _ _ => rfl)) (pv 1)) (pg_sub (pv 3) (pv 5) set_list))
        (pss_one (ps_ret (pv 6))))) pss_nil)
      (pss_cons (ps_set (i := 7) scNext.nd rfl (.inl rfl) (pe_op op_mul (pe_op op_add (pe_op op_add (pe_ix ix_list (pv 2) (pv 5) (fun _ _ => rfl)) (pe_op op_mul pe_int (pv 4))) pe_int) (pe_op op_add pe_int (pe_op op_mul pe_int (pv 4)))))
      (pss_cons (ps_set (i := 7) scNext.nd rfl (.inl rfl) (pe_op op_mod (pe_op op_add (pv 7) (pe_op op_mul pe_int (pv 4))) pe_int))
      (pss_cons (ps_set (i := 7) scNext.nd rfl (.inl rfl) (pe_op op_mod (pe_op op_add (pe_op op_mul (pv 7) (pv 7)) pe_int) pe_int))
      (pss_cons (ps_set (i := 7) scNext.nd rfl (.inl rfl) (pe_op op_mod (pe_op op_mul (pv 7) (pv 7)) pe_int))
      (pss_one (ps_ret (pe_op op_mod (pe_op op_fdiv (pv 7) pe_int) (pv 1))))))))))), ?_⟩
    refine ⟨.ref D, rfl, D, _, rfl, SqL.of eD, rfl, .ref C, _, rfl, .ref R, _, rfl, .int c, [], rfl, rfl, ?_⟩
    refine ⟨.int c, rfl, c, 1, rfl, rfl, .ref D, rfl, D, _, 2, 2, rfl, rfl, eD, rfl, ?_⟩
    have eD1 : upd H D (.lst [.ref C, .ref R, .int (c + 1)]) D = some (.lst [.ref C, .ref R, .int (c + 1)]) := upd_same
    have eC1 : upd H D (.lst [.ref C, .ref R, .int (c + 1)]) C = some (.lst (ns.map V.int)) := by rw [upd_ne nDC.symm]; exact eC
    have eR1 : upd H D (.lst [.ref C, .ref R, .int (c + 1)]) R = some (.lst (rs.map V.int)) := by rw [upd_ne nDR.symm]; exact eR
    have k1 : Keep [D, R] H (upd H D (.lst [.ref C, .ref R, .int (c + 1)])) := Keep.put (by simp)
    show (_ : Prop)
    generalize hG : upd H D (.lst ([V.ref C, V.ref R, V.int c].set 2 (V.int (c + 1)))) = G
    have hG' : upd H D (.lst [.ref C, .ref R, .int (c + 1)]) = G := hG
    rw [hG'] at eD1 eC1 eR1 k1
    have lnn : ((ns.map V.int).length : Int) = (ns.length : Int) := by rw [List.length_map]
    have sp0 : 0 ≤ c % (ns.length : Int) := Int.emod_nonneg _ (by omega)
    have sp1 : c % (ns.length : Int) < (ns.length : Int) := Int.emod_lt_of_pos _ (by omega)
    refine ⟨.int c, rfl, .ref C, rfl, C, _, rfl, .inl (SqL.of eC1), c, _, rfl, rfl, by rw [lnn]; omega, ?_⟩
    rw [lnn]
    dsimp only
    generalize hsp : c % (ns.length : Int) = sp at sp0 sp1 ⊢
    have atR : atI (rs.map V.int) sp = some (.int (rs.getD sp.toNat 0)) := by
      have e : ((sp.toNat : Nat) : Int) = sp := by omega
      rw [← e]
      refine atI_nat ?_
      rw [List.getElem?_map, List.getD_eq_getElem?_getD, List.getElem?_eq_getElem (show ((sp.toNat : Nat) : Int).toNat < rs.length by omega)]
      simp only [Int.toNat_natCast]
      rw [List.getElem?_eq_getElem (show sp.toNat < rs.length by omega)]; rfl
    have atC : atI (ns.map V.int) sp = some (.int (ns.getD sp.toNat 0)) := by
      have e : ((sp.toNat : Nat) : Int) = sp := by omega
      rw [← e]
      refine atI_nat ?_
      rw [List.getElem?_map, List.getD_eq_getElem?_getD]
      simp only [Int.toNat_natCast]
      rw [List.getElem?_eq_getElem (show sp.toNat < ns.length by omega)]; rfl
    generalize hr0 : rs.getD sp.toNat 0 = r at atR
    generalize hn0 : ns.getD sp.toNat 0 = n at atC
    refine ⟨.ref R, rfl, .int sp, rfl, R, _, sp, .int r, rfl, rfl, SqL.of eR1, atR, r, 0, rfl, rfl, _, rfl, ite2 (fun e => ?_) (fun e => ?_)⟩
    · have r0 : 0 < r := of_decide_eq_true e
      refine ⟨.ref R, rfl, .int sp, rfl, R, _, sp, .int r, rfl, rfl, SqL.of eR1, atR, .int m, rfl, r, m, rfl, rfl, (show (0 : Int) < m by omega), ?_⟩
      refine ⟨.ref R, rfl, .int sp, rfl, R, _, sp, .int r, rfl, rfl, SqL.of eR1, atR, .int m, rfl, r, m, rfl, rfl, wide_div (b := 64) (by omega) (by omega) (by decide) (by decide), ?_⟩
      refine ⟨.ref R, rfl, .int sp, rfl, R, _, sp, sp.toNat, rfl, rfl, eR1, ixN_at sp0 (by rw [List.length_map]; omega), ?_⟩
      rw [set_map]
      refine ⟨.int (r % m), rfl, q _ _ (k1.trans (Keep.put (by simp))) ⟨⟨ns, rs.set sp.toNat (r / m), c + 1, ?_, ?_, upd_same, ?_, l0, l1, pn, ?_, by omega, by omega⟩, nCR, nDC, nDR⟩ (Int.emod_nonneg _ (by omega)) (Int.emod_lt_of_pos _ (by omega))⟩
      · rw [upd_ne nDR]; exact eD1
      · rw [upd_ne nCR]; exact eC1
      · rw [List.length_set]; exact lr
      · intro z hz
        rcases List.mem_or_eq_of_mem_set hz with hz | hz
        · exact pr z hz
        · rw [hz]; exact Int.ediv_nonneg (by omega) (by omega)
    · have fin : ∀ x : Int, 0 ≤ x → Q (.int (x / 512 % m)) G := fun x hx =>
        q _ _ k1 ⟨⟨ns, rs, c + 1, eD1, eC1, eR1, lr, l0, l1, pn, pr, by omega, by omega⟩, nCR, nDC, nDR⟩ (Int.emod_nonneg _ (by omega)) (Int.emod_lt_of_pos _ (by omega))
      refine ⟨.ref C, rfl, .int sp, rfl, C, _, sp, .int n, rfl, rfl, SqL.of eC1, atC, .int c, rfl, 1009, c, rfl, rfl, .inl ⟨by decide, by decide⟩, n, _, rfl, rfl, _, 3, rfl, rfl, .int c, rfl, 2, c, rfl, rfl, .inl ⟨by decide, by decide⟩, 50021, _, rfl, rfl, _, _, rfl, rfl, .inr ⟨by omega, by omega⟩, ?_⟩
      dsimp only
      generalize (n + 1009 * c + 3) * (50021 + 2 * c) = x1
      refine ⟨.int x1, rfl, .int c, rfl, 60013, c, rfl, rfl, .inl ⟨by decide, by decide⟩, x1, _, rfl, rfl, _, _, rfl, rfl, (show (0 : Int) < 2305843009213693951 by decide), ?_⟩
      have y0 : 0 ≤ (x1 + 60013 * c) % 2305843009213693951 := Int.emod_nonneg _ (by decide)
      have y1 : (x1 + 60013 * c) % 2305843009213693951 < 2305843009213693951 := Int.emod_lt_of_pos _ (by decide)
      dsimp only
      generalize (x1 + 60013 * c) % 2305843009213693951 = x2 at y0 y1 ⊢
      refine ⟨.int x2, rfl, .int x2, rfl, x2, x2, rfl, rfl, .inl ⟨by omega, by omega⟩, _, 79633, rfl, rfl, _, _, rfl, rfl, (show (0 : Int) < 2305843009213693921 by decide), ?_⟩
      have z0 : 0 ≤ (x2 * x2 + 79633) % 2305843009213693921 := Int.emod_nonneg _ (by decide)
      have z1 : (x2 * x2 + 79633) % 2305843009213693921 < 2305843009213693921 := Int.emod_lt_of_pos _ (by decide)
      dsimp only
      generalize (x2 * x2 + 79633) % 2305843009213693921 = x3 at z0 z1 ⊢
      refine ⟨.int x3, rfl, .int x3, rfl, x3, x3, rfl, rfl, .inl ⟨by omega, by omega⟩, _, _, rfl, rfl, (show (0 : Int) < 2305843009213693951 by decide), ?_⟩
      have w0 : 0 ≤ (x3 * x3) % 2305843009213693951 := Int.emod_nonneg _ (by decide)
      dsimp only
      generalize (x3 * x3) % 2305843009213693951 = x4 at w0 ⊢
      exact ⟨.int x4, rfl, x4, 512, rfl, rfl, ⟨by decide, by decide⟩, .int m, rfl, _, m, rfl, rfl, (show (0 : Int) < m by omega), fin x4 w0⟩
end
end Rw

namespace Rw
open PySem PySem.Spec PyProof.Rows L2
theorem atI_of {α : Type} {xs : List α} {i : Int} {v : α} (h0 : 0 ≤ i) (h : xs[i.toNat]? = some v) : atI xs i = some v := by
  have hl := (List.getElem?_eq_some_iff.mp h).1
  unfold atI
  rw [ixN_at h0 (by omega)]
  exact h
theorem Deck.at {H : Hp} {D C R : Addr} {b : Int} (x : Deck H D C R b) : (∃ o, H D = some o) ∧ (∃ o, H C = some o) ∧ ∃ o, H R = some o := by
  obtain ⟨⟨ns, rs, c, e1, e2, e3, r⟩, _⟩ := x
  exact ⟨⟨_, e1⟩, ⟨_, e2⟩, ⟨_, e3⟩⟩
theorem Keep.free {H H' : Hp} {D C R p : Addr} {b : Int} (k : Keep [D, R] H H') (x : Deck H' D C R b) (n : H' p = none) : H p = none := by
  cases hq : H p with
  | none => rfl
  | some o =>
    have nd : p ∉ [D, R] := fun m => by
      obtain ⟨n1, n2, n3⟩ := x.ne n
      rcases List.mem_cons.mp m with m | m
      · exact n1 m
      · exact n3 (List.mem_singleton.mp m)
    rw [k p o hq nd] at n; cases n
theorem notDR {D R p : Addr} (h1 : p ≠ D) (h2 : p ≠ R) : p ∉ [D, R] := fun m => by
  rcases List.mem_cons.mp m with m | m
  · exact h1 m
  · exact h2 (List.mem_singleton.mp m)
section
variable {P : Program} {w : World} {K : PySem.W.Frag} {mg : Str → Option Value} {base : Heap}
abbrev sOne : Stmt := topS 47
abbrev sEdge : Stmt := topS 48
abbrev sSpots : Stmt := topS 50
abbrev sLength : Stmt := topS 51
theorem scOne : FnScope ["_law_deck_here", "_law_some"] ["_law_deck_here", "_law_some"] (defScope sOne) := ⟨rfl, rfl, rfl, by decide +kernel, rfl, by decide +kernel, by decide +kernel⟩
theorem scEdge : FnScope ["_law_deck_here", "_law_many"] ["_law_deck_here", "_law_many"] (defScope sEdge) := ⟨rfl, rfl, rfl, by decide +kernel, rfl, by decide +kernel, by decide +kernel⟩
theorem scSpots : FnScope ["_law_deck_here", "_law_low", "_law_high", "_law_many", "_law_k"] ["_law_deck_here", "_law_low", "_law_high", "_law_many"] (defScope sSpots) := ⟨rfl, rfl, rfl, by decide +kernel, rfl, by decide +kernel, by decide +kernel⟩
theorem scLength : FnScope ["_law_deck_here", "_law_far", "_law_some"] ["_law_deck_here", "_law_far"] (defScope sLength) := ⟨rfl, rfl, rfl, by decide +kernel, rfl, by decide +kernel, by decide +kernel⟩
def spOne : Sp := fun vs H Q _ => ∃ (D C R l : Addr) (b : Int) (xs : List V), vs = [.ref D, .ref l] ∧ H l = some (.lst xs) ∧ 1 ≤ xs.length ∧ xs.length ≤ 1000 ∧ l ≠ D ∧ l ≠ R ∧ Deck H D C R b ∧ b ≤ 1000000000 ∧
  ∀ H' (i : Nat) x, Keep [D, R] H H' → Deck H' D C R (b + 1) → xs[i]? = some x → Q x H'
theorem ok_one (h : Has K mg "_law_one" sOne) (B : Blt mg) (CN : Can P w K mg base "_law_next" ["_law_deck_here", "_law_many"] 1 spNext) : Can P w K mg base "_law_one" ["_law_deck_here", "_law_some"] 2 spOne := by
  obtain ⟨f, fd, F, g⟩ := h
  refine ⟨f, fd, F.ok (k := 1) scOne (fun vs H Q E h => ?_) (fun cdv A outer s H vs Q E hr h => ?_), g, F.kp, F.binds fun _ _ _ _ _ _ us hl => match us, hl with | [_, _], _ => rfl⟩
  · obtain ⟨D, C, R, l, b, xs, rfl, _⟩ := h
    rfl
  · obtain ⟨D, C, R, l, b, xs, rfl, el, l1, l2, nD, nR, dk, hb, q⟩ := h
    refine ⟨_, pss_one (ps_ret (pe_ix ix_list (pv 1) (pe_can CN hr (by rfl) (pa_cons (pv 0) (pa_cons (pe_callB call_len_seq (by rfl) B.len_ PySem.boot_len (pa_cons (pv 1) pa_nil)) pa_nil))) (fun _ _ => rfl))), ?_⟩
    refine ⟨.ref l, rfl, .ref D, rfl, .ref l, rfl, l, xs, rfl, .inl (SqL.of el), D, C, R, b, _, rfl, by omega, by omega, dk, hb, fun H' k kp dk' k0 k1 => ?_⟩
    have g1 : xs[k.toNat]? = some (xs[k.toNat]'(by omega)) := List.getElem?_eq_getElem (by omega)
    refine ⟨l, xs, k, _, rfl, rfl, SqL.of (kp l _ el (notDR nD nR)), atI_of k0 g1, q H' k.toNat _ kp dk' g1⟩
def spEdge : Sp := fun vs H Q _ => ∃ (D C R : Addr) (b m : Int), vs = [.ref D, .int m] ∧ 1 ≤ m ∧ m ≤ 100000000000000 ∧ Deck H D C R b ∧ b ≤ 900000000 ∧
  ∀ H' k, Keep [D, R] H H' → Deck H' D C R (b + 3) → 0 ≤ k → k < m → Q (.int k) H'
theorem ok_edge (h : Has K mg "_law_edge" sEdge) (B : Blt mg) (CN : Can P w K mg base "_law_next" ["_law_deck_here", "_law_many"] 1 spNext) (CO : Can P w K mg base "_law_one" ["_law_deck_here", "_law_some"] 2 spOne) :
    Can P w K mg base "_law_edge" ["_law_deck_here", "_law_many"] 3 spEdge := by
  obtain ⟨f, fd, F, g⟩ := h
  refine ⟨f, fd, F.ok (k := 2) scEdge (fun vs H Q E h => ?_) (fun cdv A outer s H vs Q E hr h => ?_), g, F.kp, F.binds fun _ _ _ _ _ _ us hl => match us, hl with | [_, _], _ => rfl⟩
  · obtain ⟨D, C, R, b, m, rfl, _⟩ := h
    rfl
  · obtain ⟨D, C, R, b, m, rfl, m1, m2, dk, hb, q⟩ := h
    refine ⟨_, pss_one (ps_ret (pe_can CO hr (by rfl) (pa_cons (pv 0) (pa_cons (pe_lst (pa_cons pe_int (pa_cons (pe_op op_sub (pv 1) pe_int) (pa_cons (pe_can CN (hr.mono (by decide)) (by rfl) (pa_cons (pv 0) (pa_cons (pv 1) pa_nil)))
      (pa_cons (pe_can CN (hr.mono (by decide)) (by rfl) (pa_cons (pv 0) (pa_cons (pe_callB (call_min2 rfl) (by rfl) B.min_ boot_min (pa_cons (pv 1) (pa_cons pe_int pa_nil))) pa_nil))) pa_nil))))) pa_nil)))), ?_⟩
    refine ⟨.ref D, rfl, .int m, rfl, m, 1, rfl, rfl, .ref D, rfl, .int m, rfl, D, C, R, b, m, rfl, m1, m2, dk, by omega, fun H1 k1 kp1 dk1 a1 a2 => ?_⟩
    refine ⟨.ref D, rfl, .int m, rfl, m, 4, rfl, D, C, R, b + 1, _, rfl, by split <;> omega, by split <;> omega, dk1, by omega, fun H2 k2 kp2 dk2 a3 a4 => ?_⟩
    refine ⟨show 4 ≤ sizeLine by decide, fun l nl => ?_⟩
    obtain ⟨n1, n2, n3⟩ := dk2.ne nl
    refine ⟨D, C, R, l, b + 1 + 1, _, rfl, upd_same, show 1 ≤ 4 by decide, show 4 ≤ 1000 by decide, n1, n3, dk2.new nl, by omega, fun H3 i x kp3 dk3 hx => ?_⟩
    have kp : Keep [D, R] H H3 := kp1.trans (kp2.trans ((Keep.new nl).trans kp3))
    have dk3' : Deck H3 D C R (b + 3) := dk3.mono (by omega)
    match i, hx with
    | 0, hx => cases hx; exact q H3 0 kp dk3' (by decide) (by omega)
    | 1, hx => cases hx; exact q H3 (m - 1) kp dk3' (by omega) (by omega)
    | 2, hx => cases hx; exact q H3 k1 kp dk3' a1 a2
    | 3, hx =>
      cases hx
      refine q H3 k2 kp dk3' a3 ?_
      revert a4; split <;> omega
    | i + 4, hx => exact nomatch hx
def spSpots : Sp := fun vs H Q _ => ∃ (D C R : Addr) (b lo hi m : Int), vs = [.ref D, .int lo, .int hi, .int m] ∧ hi - lo + 1 ≤ 100000000000000 ∧ 0 ≤ m ∧ m ≤ 10 ∧ Deck H D C R b ∧ b ≤ 800000000 ∧
  ∀ H' (p : Addr) (ns : List Int), Keep [D, R] H H' → Deck H' D C R (b + 3 * m) → H p = none → H' p = some (.lst (ns.map V.int)) → ns.Pairwise (· < ·) → (∀ n ∈ ns, lo ≤ n ∧ n ≤ hi) → (ns.length : Int) ≤ m → Q (.ref p) H'
theorem ok_spots (h : Has K mg "_law_spots" sSpots) (B : Blt mg) (CE : Can P w K mg base "_law_edge" ["_law_deck_here", "_law_many"] 3 spEdge) : Can P w K mg base "_law_spots" ["_law_deck_here", "_law_low", "_law_high", "_law_many"] 4 spSpots := by
  obtain ⟨f, fd, F, g⟩ := h
  refine ⟨f, fd, F.ok (k := 3) scSpots (fun vs H Q E h => ?_) (fun cdv A outer s H vs Q E hr h => ?_), g, F.kp, F.binds fun _ _ _ _ _ _ us hl => match us, hl with | [_, _, _, _], _ => rfl⟩
  · obtain ⟨D, C, R, b, lo, hi, m, rfl, _⟩ := h
    rfl
  · obtain ⟨D, C, R, b, lo, hi, m, rfl, hh, m0, m1, dk, hb, q⟩ := h
    refine ⟨_, pss_cons (ps_if (pt_cmpR op_lt (pv 2) (pv 1) (nomark _)) (pss_one (ps_ret (pe_lst pa_nil))) pss_nil)
      (pss_one (ps_ret (pe_callB (cr_sortedSet rfl) (by rfl) B.sorted_ boot_sorted (pa_cons (pe_callTy (cr_setL rfl) (by rfl) B.set_ boot_set (pa_cons
        (pe_lc (own := [("_law_k", 4)]) (g := gName 4) (tt := tYes) rfl scSpots.nd (pi_range1 (by rfl) B.range_ (pa_cons (pv 3) pa_nil)) (blkOk_by (N := ["_law_deck_here", "_law_low", "_law_high", "_law_many", "_law_k"]) (sc := defScope sSpots) (by decide +kernel))
          (fun _ _ _ _ _ => pg_name (i := 4) scSpots.nd rfl (Or.inl rfl)) (fun _ _ _ _ _ => pts_nil) (fun _ _ _ _ _ => pe_op op_add (pv 1) (pe_can CE hr (by rfl) (pa_cons (pv 0) (pa_cons (pe_op op_add (pe_op op_sub (pv 2) (pv 1)) pe_int) pa_nil))))) pa_nil)) pa_nil)))), ?_⟩
    refine ⟨.int hi, rfl, .int lo, rfl, hi, lo, rfl, rfl, _, rfl, ite2 (fun e => ?_) (fun e => ?_)⟩
    · refine ⟨show 0 ≤ sizeLine by decide, fun p np => ?_⟩
      exact q _ p [] (Keep.new np) ((dk.new np).mono (by omega)) np upd_same List.Pairwise.nil (fun _ z => absurd z List.not_mem_nil) (by show ((0 : Nat) : Int) ≤ m; omega)
    · have hle : lo ≤ hi := by
        have h2 : ¬ (hi < lo) := fun z => e (decide_eq_true z)
        omega
      refine ⟨.int m, rfl, m, rfl, by omega, by omega, fun L nL => ?_⟩
      refine lc_range (lo := 0) (n := m.toNat) (fun i G => Keep [D, R] H G ∧ Deck G D C R (b + 3 * i) ∧ L ≠ D ∧ L ≠ R ∧ ∃ cs : List Int, cs.length = i ∧ (∀ n ∈ cs, lo ≤ n ∧ n ≤ hi) ∧ G L = some (.lst (cs.map V.int)))
        ⟨Keep.new nL, (dk.new nL).mono (by omega), (dk.ne nL).1, (dk.ne nL).2.2, [], rfl, fun _ z => absurd z List.not_mem_nil, upd_same⟩ (fun i G hi' p => ?_) (fun G p => ?_)
      · obtain ⟨k1, d1, n1, n2, cs, l1, c1, e1⟩ := p
        refine ⟨rfl, .int lo, rfl, .ref D, rfl, .int hi, rfl, .int lo, rfl, hi, lo, rfl, rfl, _, 1, rfl, rfl, D, C, R, _, _, rfl, by omega, hh, d1, by omega, fun G2 k kp dk2 a1 a2 => ?_⟩
        have e2 := kp L _ e1 (notDR n1 n2)
        refine ⟨lo, k, rfl, rfl, cs.map V.int, e2, by rw [List.length_map, l1]; exact small1000 (by omega), ?_, ?_, n1, n2, cs ++ [lo + k], by rw [List.length_append, l1]; rfl, ?_, by rw [upd_same, List.map_append]; rfl⟩
        · exact (k1.trans kp).upd nL
        · have nLC : L ≠ C := by
            obtain ⟨oc, ec⟩ := dk.at.2.1
            exact (ne_of_none ec nL).symm
          exact (dk2.other n1 nLC n2).mono (by have : ((i + 1 : Nat) : Int) = (i : Int) + 1 := by omega
                                               omega)
        · intro z hz
          rcases List.mem_append.mp hz with hz | hz
          · exact c1 z hz
          · rw [List.mem_singleton.mp hz]; omega
      · obtain ⟨k1, d1, n1, n2, cs, l1, c1, e1⟩ := p
        refine ⟨L, cs, rfl, SqL.of e1, by omega, fun sa c na hc => ?_⟩
        refine ⟨sa, _, c, rfl, upd_same, by omega, fun ns p pw mem ln np => ?_⟩
        have k2 : Keep [D, R] H (upd G sa (SetO w sa (fun j => decide (j ∈ cs)) c)) := k1.trans (Keep.new na)
        have d2 : Deck (upd G sa (SetO w sa (fun j => decide (j ∈ cs)) c)) D C R (b + 3 * (m.toNat : Nat)) := d1.new na
        refine q _ p ns (k2.trans (Keep.new np)) ((d2.new np).mono (by omega)) (k2.free d2 np) upd_same pw (fun n hn => ?_) (by omega)
        exact c1 n (of_decide_eq_true ((mem n).mp hn))
def spLength : Sp := fun vs H Q _ => ∃ (D C R : Addr) (b far : Int), vs = [.ref D, .int far] ∧ Deck H D C R b ∧ b ≤ 800000000 ∧
  ∀ H' k, Keep [D, R] H H' → Deck H' D C R (b + 6) → 1 ≤ k → k ≤ 1000000000000 → (far ≤ 0 → k ≤ 4) → Q (.int k) H'
theorem ok_length (h : Has K mg "_law_length" sLength) (CN : Can P w K mg base "_law_next" ["_law_deck_here", "_law_many"] 1 spNext) (CO : Can P w K mg base "_law_one" ["_law_deck_here", "_law_some"] 2 spOne) :
    Can P w K mg base "_law_length" ["_law_deck_here", "_law_far"] 3 spLength := by
  obtain ⟨f, fd, F, g⟩ := h
  refine ⟨f, fd, F.ok (k := 2) scLength (fun vs H Q E h => ?_) (fun cdv A outer s H vs Q E hr h => ?_), g, F.kp, F.binds fun _ _ _ _ _ _ us hl => match us, hl with | [_, _], _ => rfl⟩
  · obtain ⟨D, C, R, b, far, rfl, _⟩ := h
    rfl
  · obtain ⟨D, C, R, b, far, rfl, dk, hb, q⟩ := h
    refine ⟨_, pss_cons (ps_set (i := 2) scLength.nd rfl (.inl rfl) (pe_lst (pa_cons pe_int (pa_cons (pe_op op_add pe_int (pe_can CN (hr.mono (by decide)) (by rfl) (pa_cons (pv 0) (pa_cons pe_int pa_nil)))) (pa_cons (pe_op op_add pe_int (pe_can CN (hr.mono (by decide)) (by rfl) (pa_cons (pv 0) (pa_cons pe_int pa_nil)))) pa_nil)))))
      (pss_cons (ps_if (pt_cmpR op_gt (pv 1) pe_int (nomark _))
        (pss_one (ps_set (i := 2) scLength.nd rfl (.inl rfl) (pe_op op_cat (pv 2) (pe_lst (pa_cons (pe_op op_add pe_int (pe_can CN (hr.mono (by decide)) (by rfl) (pa_cons (pv 0) (pa_cons pe_int pa_nil))))
          (pa_cons (pe_op op_sub (pe_op op_pow pe_int pe_int) (pe_can CN (hr.mono (by decide)) (by rfl) (pa_cons (pv 0) (pa_cons pe_int pa_nil))))
          (pa_cons (pe_op op_add pe_int (pe_can CN (hr.mono (by decide)) (by rfl) (pa_cons (pv 0) (pa_cons (pe_op op_pow pe_int pe_int) pa_nil)))) pa_nil)))))))
        pss_nil)
      (pss_one (ps_ret (pe_can CO hr (by rfl) (pa_cons (pv 0) (pa_cons (pv 2) pa_nil)))))), ?_⟩
    refine ⟨.ref D, rfl, D, C, R, b, 3, rfl, by decide, by decide, dk, by omega, fun H1 k1 kp1 dk1 a1 a2 => ?_⟩
    refine ⟨1, k1, rfl, rfl, .ref D, rfl, D, C, R, b + 1, 3, rfl, by decide, by decide, dk1, by omega, fun H2 k2 kp2 dk2 a3 a4 => ?_⟩
    refine ⟨2, k2, rfl, rfl, show 3 ≤ sizeLine by decide, fun l nl => ?_⟩
    obtain ⟨n1, n2, n3⟩ := dk2.ne nl
    have kp3 : Keep [D, R] H (upd H2 l (.lst [.int 1, .int (1 + k1), .int (2 + k2)])) := kp1.trans (kp2.trans (Keep.new nl))
    have dk3 : Deck (upd H2 l (.lst [.int 1, .int (1 + k1), .int (2 + k2)])) D C R (b + 1 + 1) := dk2.new nl
    refine ⟨.int far, rfl, far, 0, rfl, rfl, _, rfl, ite2 (fun e => ?_) (fun e => ?_)⟩
    · refine ⟨.ref l, rfl, .ref D, rfl, D, C, R, _, 12, rfl, by decide, by decide, dk3, by omega, fun H4 k4 kp4 dk4 a5 a6 => ?_⟩
      refine ⟨2, k4, rfl, rfl, 10, 12, rfl, rfl, ⟨by decide, by decide, by decide⟩, .ref D, rfl, D, C, R, _, 3, rfl, by decide, by decide, dk4, by omega, fun H5 k5 kp5 dk5 a7 a8 => ?_⟩
      refine ⟨_, k5, rfl, rfl, .ref D, rfl, 10, 12, rfl, rfl, ⟨by decide, by decide, by decide⟩, D, C, R, _, _, rfl, by decide, by decide, dk5, by omega, fun H6 k6 kp6 dk6 a9 a10 => ?_⟩
      refine ⟨1, k6, rfl, rfl, show 3 ≤ sizeLine by decide, fun l2 nl2 => ?_⟩
      have kp7 := kp4.trans (kp5.trans kp6)
      have el6 := kp7 l _ upd_same (notDR n1 n3)
      refine ⟨l, l2, [.int 1, .int (1 + k1), .int (2 + k2)], _, rfl, rfl, by rw [upd_ne (ne_of_none el6 nl2)]; exact el6, upd_same, show 6 ≤ sizeLine by decide, fun l3 nl3 => ?_⟩
      have kp8 := kp3.trans (kp7.trans (Keep.new (av := [D, R]) (o := .lst [.int (2 + k4), .int ((10 : Int) ^ (12 : Int).toNat - k5), .int (1 + k6)]) nl2))
      have dk8 := dk6.new (o := .lst [.int (2 + k4), .int ((10 : Int) ^ (12 : Int).toNat - k5), .int (1 + k6)]) nl2
      obtain ⟨m1, m2, m3⟩ := dk8.ne nl3
      refine ⟨.ref D, rfl, .ref l3, rfl, D, C, R, l3, _, _, rfl, upd_same, show 1 ≤ 6 by decide, show 6 ≤ 1000 by decide, m1, m3, dk8.new nl3, by omega, fun H9 i x kp9 dk9 hx => ?_⟩
      have kp : Keep [D, R] H H9 := kp8.trans ((Keep.new nl3).trans kp9)
      have dkE : Deck H9 D C R (b + 6) := dk9.mono (by omega)
      have t12 : ((10 : Int) ^ (12 : Int).toNat) = 1000000000000 := by decide
      rw [t12] at hx a10
      match i, hx with
      | 0, hx => cases hx; exact q H9 _ kp dkE (by decide) (by decide) (fun z => by have := of_decide_eq_true e; omega)
      | 1, hx => cases hx; exact q H9 _ kp dkE (by omega) (by omega) (fun z => by have := of_decide_eq_true e; omega)
      | 2, hx => cases hx; exact q H9 _ kp dkE (by omega) (by omega) (fun z => by have := of_decide_eq_true e; omega)
      | 3, hx => cases hx; exact q H9 _ kp dkE (by omega) (by omega) (fun z => by have := of_decide_eq_true e; omega)
      | 4, hx => cases hx; exact q H9 _ kp dkE (by omega) (by omega) (fun z => by have := of_decide_eq_true e; omega)
      | 5, hx => cases hx; exact q H9 _ kp dkE (by omega) (by omega) (fun z => by have := of_decide_eq_true e; omega)
      | i + 6, hx => exact nomatch hx
    · refine ⟨.ref D, rfl, .ref l, rfl, D, C, R, l, _, _, rfl, upd_same, show 1 ≤ 3 by decide, show 3 ≤ 1000 by decide, n1, n3, dk3, by omega, fun H9 i x kp9 dk9 hx => ?_⟩
      have kp : Keep [D, R] H H9 := kp3.trans kp9
      have dkE : Deck H9 D C R (b + 6) := dk9.mono (by omega)
      match i, hx with
      | 0, hx => cases hx; exact q H9 _ kp dkE (by decide) (by decide) (fun _ => by omega)
      | 1, hx => cases hx; exact q H9 _ kp dkE (by omega) (by omega) (fun _ => by omega)
      | 2, hx => cases hx; exact q H9 _ kp dkE (by omega) (by omega) (fun _ => by omega)
      | i + 3, hx => exact nomatch hx
end
end Rw

namespace Rw
open PySem PySem.Spec PyProof.Rows L2
/-! addresses that are tracked -/
def Tr (av : List Addr) (H : Hp) : Prop := ∀ a ∈ av, ∃ o, H a = some o
theorem Tr.not {av : List Addr} {H : Hp} {p : Addr} (t : Tr av H) (n : H p = none) : p ∉ av := fun m => by
  obtain ⟨o, e⟩ := t p m
  rw [n] at e; cases e
theorem Tr.upd {av : List Addr} {H : Hp} {p : Addr} {o : HO} (t : Tr av H) : Tr av (upd H p o) := fun a m => by
  by_cases e : a = p
  · subst e; exact ⟨o, upd_same⟩
  · obtain ⟨u, z⟩ := t a m
    exact ⟨u, by rw [upd_ne e]; exact z⟩
theorem Tr.cons {av : List Addr} {H : Hp} {p : Addr} {o : HO} (t : Tr av H) (e : H p = some o) : Tr (p :: av) H := fun a m => by
  rcases List.mem_cons.mp m with m | m
  · rw [m]; exact ⟨o, e⟩
  · exact t a m
theorem Tr.keep {av : List Addr} {H H' : Hp} {D C R : Addr} {b : Int} (t : Tr av H) (k : Keep [D, R] H H') (d : Deck H' D C R b) : Tr av H' := fun a m => by
  cases e : H' a with
  | some o => exact ⟨o, rfl⟩
  | none =>
    obtain ⟨o, z⟩ := t a m
    rw [k.free d e] at z; cases z
theorem ix_listK {X : Cx} {K : PySem.W.Frag} (h : X.K = K) : IxR X (rIxL K) := by subst h; exact ix_list
theorem pick4 (a b c d : Int) (n : Nat) (h : n < 4) : ∃ j, [V.int a, V.int b, V.int c, V.int d][n]? = some (.int j) ∧ (j = a ∨ j = b ∨ j = c ∨ j = d) := by
  match n, h with
  | 0, _ => exact ⟨a, rfl, .inl rfl⟩
  | 1, _ => exact ⟨b, rfl, .inr (.inl rfl)⟩
  | 2, _ => exact ⟨c, rfl, .inr (.inr (.inl rfl))⟩
  | 3, _ => exact ⟨d, rfl, .inr (.inr (.inr rfl))⟩
/-! ### a pipe, by data -/
def prD (p : Int × Int) : PyData := .tuple [.int p.1, .int p.2]
def pipeD (x y l : Int) (na fl : List (Int × Int)) : PyData := .tuple [.int x, .int y, .int l, .tuple (na.map prD), .tuple (fl.map prD)]
structure Fit (l : Int) (na fl : List (Int × Int)) : Prop where
  l1 : 1 ≤ l
  l2 : l ≤ 1000000000000
  nup : (na.map (·.1)).Pairwise (· < ·)
  nin : ∀ p ∈ na, 1 ≤ p.1 ∧ p.1 ≤ l - 1 ∧ 1 ≤ p.2 ∧ p.2 ≤ 1000000
  fup : (fl.map (·.1)).Pairwise (· < ·)
  fin : ∀ p ∈ fl, 0 ≤ p.1 ∧ p.1 ≤ l - 1 ∧ (p.2 = 1 ∨ p.2 = -1)
  nle : na.length ≤ 3
  fle : fl.length ≤ 3
section
variable {P : Program} {w : World} {K : PySem.W.Frag} {mg : Str → Option Value} {base : Heap}
abbrev sPipe : Stmt := topS 52
abbrev nPipe : List Str := ["_law_deck_here", "_law_one_here", "_law_other", "_law_left", "_law_far", "_law_length_here", "_law_spots_here", "_law_hung", "_law_narrows", "_law_at"]
theorem scPipe : FnScope nPipe ["_law_deck_here", "_law_one_here", "_law_other", "_law_left", "_law_far"] (defScope sPipe) := ⟨rfl, rfl, rfl, by decide +kernel, rfl, by decide +kernel, by decide +kernel⟩
def spPipe : Sp := fun vs H Q _ => ∃ (D C R L : Addr) (b x y l0 l1 far : Int) (av : List Addr), vs = [.ref D, .int x, .int y, .ref L, .int far] ∧ H L = some (.lst [.int l0, .int l1]) ∧ 0 ≤ l0 ∧ 0 ≤ l1 ∧ l0 ≤ 100 ∧ l1 ≤ 100 ∧
  L ≠ D ∧ L ≠ C ∧ L ≠ R ∧ (far = 0 ∨ far = 1) ∧ Deck H D C R b ∧ b ≤ 700000000 ∧ Tr av H ∧ D ∈ av ∧ R ∈ av ∧ L ∈ av ∧
  ∀ H' (p : Addr) (l : Int) (na fl : List (Int × Int)), Keep [D, R, L] H H' → Deck H' D C R (b + 60) → H' L = some (.lst [.int (l0 - na.length), .int (l1 - fl.length)]) → (na.length : Int) ≤ l0 → (fl.length : Int) ≤ l1 →
    Fit l na fl → (far = 0 → l ≤ 4) → Dt av H' (.ref p) (pipeD x y l na fl) → Tr av H' → Q (.ref p) H'
theorem ok_pipe (h : Has K mg "_law_pipe" sPipe) (B : Blt mg) (CN : Can P w K mg base "_law_next" ["_law_deck_here", "_law_many"] 1 spNext) (CE : Can P w K mg base "_law_edge" ["_law_deck_here", "_law_many"] 3 spEdge)
    (CS : Can P w K mg base "_law_spots" ["_law_deck_here", "_law_low", "_law_high", "_law_many"] 4 spSpots) (CL : Can P w K mg base "_law_length" ["_law_deck_here", "_law_far"] 3 spLength) :
    Can P w K mg base "_law_pipe" ["_law_deck_here", "_law_one_here", "_law_other", "_law_left", "_law_far"] 5 spPipe := by
  obtain ⟨f, fd, F, g⟩ := h
  refine ⟨f, fd, F.ok (k := 4) scPipe (fun vs H Q E h => ?_) (fun cdv A outer s H vs Q E hr h => ?_), g, F.kp, F.binds fun _ _ _ _ _ _ us hl => match us, hl with | [_, _, _, _, _], _ => rfl⟩
  · obtain ⟨D, C, R, L, b, x, y, l0, l1, far, av, rfl, _⟩ := h
    rfl
  · obtain ⟨D, C, R, L, b, x, y, l0, l1, far, av, rfl, eL, p0, p1, p2, p3, nLD, nLC, nLR, hf, dk, hb, tr, mD, mR, mL, q⟩ := h
    refine ⟨_, pss_cons (ps_set (i := 5) scPipe.nd rfl (.inl rfl) (pe_can CL (hr.mono (by decide)) (by rfl) (pa_cons (pv 0) (pa_cons (pv 4) pa_nil))))
      (pss_cons (ps_set (i := 6) scPipe.nd rfl (.inl rfl) (pe_can CS hr (by rfl) (pa_cons (pv 0) (pa_cons pe_int (pa_cons (pe_op op_sub (pv 5) pe_int) (pa_cons (pe_callB (call_min2 rfl) (by rfl) B.min_ boot_min (pa_cons (pe_ix ix_list (pv 3) pe_int (fun _ _ => rfl)) (pa_cons
          (pe_ix ix_list (pe_lst (pa_cons pe_int (pa_cons pe_int (pa_cons pe_int (pa_cons pe_int pa_nil))))) (pe_can CN (hr.mono (by decide)) (by rfl) (pa_cons (pv 0) (pa_cons pe_int pa_nil))) (fun _ _ => rfl)) pa_nil))) pa_nil))))))
      (pss_cons (ps_set (i := 7) scPipe.nd rfl (.inl rfl) (pe_can CS hr (by rfl) (pa_cons (pv 0) (pa_cons pe_int (pa_cons (pe_op op_sub (pv 5) pe_int) (pa_cons (pe_callB (call_min2 rfl) (by rfl) B.min_ boot_min (pa_cons (pe_ix ix_list (pv 3) pe_int (fun _ _ => rfl)) (pa_cons
          (pe_ix ix_list (pe_lst (pa_cons pe_int (pa_cons pe_int (pa_cons pe_int (pa_cons pe_int pa_nil))))) (pe_can CN (hr.mono (by decide)) (by rfl) (pa_cons (pv 0) (pa_cons pe_int pa_nil))) (fun _ _ => rfl)) pa_nil))) pa_nil))))))
      (pss_cons (ps_asg (pe_op op_sub (pe_ix ix_list (pv 3) pe_int (fun _ _ => rfl)) (pe_callB call_len_seq (by rfl) B.len_ PySem.boot_len (pa_cons (pv 6) pa_nil))) (pg_sub (pv 3) pe_int set_list))
      (pss_cons (ps_asg (pe_op op_sub (pe_ix ix_list (pv 3) pe_int (fun _ _ => rfl)) (pe_callB call_len_seq (by rfl) B.len_ PySem.boot_len (pa_cons (pv 7) pa_nil))) (pg_sub (pv 3) pe_int set_list))
      (pss_cons (ps_set (i := 8) scPipe.nd rfl (.inl rfl) (pe_callTy call_tuple_of (by rfl) B.tuple_ boot_tuple (pa_cons
        (pe_lc (own := [("_law_at", 9)]) (g := gName 9) (tt := tYes) rfl scPipe.nd (pi_list (pv 6)) (blkOk_by (N := nPipe) (sc := defScope sPipe) (by decide +kernel))
          (fun _ _ _ _ _ => pg_name (i := 9) scPipe.nd rfl (Or.inl rfl)) (fun _ _ _ _ _ => pts_nil) (fun _ _ _ _ _ => pe_tup (pa_cons (pv 9) (pa_cons (pe_op op_add pe_int (pe_can CE (hr.mono (by decide)) (by rfl) (pa_cons (pv 0) (pa_cons
            (pe_ix (ix_listK (K := K) rfl) (pe_lst (pa_cons pe_int (pa_cons (pe_op op_pow pe_int pe_int) pa_nil))) (pv 4) (fun _ _ => rfl)) pa_nil)))) pa_nil)))) pa_nil)))
      (pss_one (ps_ret (pe_tup (pa_cons (pv 1) (pa_cons (pv 2) (pa_cons (pv 5) (pa_cons (pv 8) (pa_cons (pe_callTy call_tuple_of (by rfl) B.tuple_ boot_tuple (pa_cons
        (pe_lc (own := [("_law_at", 9)]) (g := gName 9) (tt := tYes) rfl scPipe.nd (pi_list (pv 7)) (blkOk_by (N := nPipe) (sc := defScope sPipe) (by decide +kernel))
          (fun _ _ _ _ _ => pg_name (i := 9) scPipe.nd rfl (Or.inl rfl)) (fun _ _ _ _ _ => pts_nil) (fun _ _ _ _ _ => pe_tup (pa_cons (pv 9) (pa_cons (pe_op op_sub pe_int (pe_op op_mul pe_int (pe_can CN (hr.mono (by decide)) (by rfl) (pa_cons (pv 0) (pa_cons pe_int pa_nil))))) pa_nil)))) pa_nil)) pa_nil))))))))))))), ?_⟩
    -- the length
    refine ⟨.ref D, rfl, .int far, rfl, D, C, R, b, far, rfl, dk, by omega, fun H1 l kp1 dk1 hl1 hl2 hl4 => ?_⟩
    have eL1 := kp1 L _ eL (notDR nLD nLR)
    -- the narrow places
    refine ⟨.ref D, rfl, .int l, rfl, l, 1, rfl, rfl, .ref L, rfl, L, _, 0, .int l0, rfl, rfl, SqL.of eL1, atI_nat (j := 0) rfl, show 4 ≤ sizeLine by decide, fun a4 n4 => ?_⟩
    refine ⟨.ref D, rfl, D, C, R, b + 6, 4, rfl, by decide, by decide, dk1.new n4, by omega, fun H2 k2 kp2 dk2 a1 a2 => ?_⟩
    obtain ⟨n41, n42, n43⟩ := dk1.ne n4
    obtain ⟨j2, g2, hj2⟩ := pick4 0 0 1 3 k2.toNat (by omega)
    refine ⟨a4, _, k2, .int j2, rfl, rfl, SqL.of (kp2 a4 _ upd_same (notDR n41 n43)), atI_of a1 g2, l0, j2, rfl, ?_⟩
    have kA : Keep [D, R] H H2 := kp1.trans ((Keep.new n4).trans kp2)
    have eL2 := kA L _ eL (notDR nLD nLR)
    refine ⟨D, C, R, b + 6 + 1, 1, l - 1, _, rfl, by omega, by split <;> omega, by split <;> omega, dk2, by omega, fun H3 sa ns kp3 dk3 nsa esa pw1 in1 ln1 => ?_⟩
    have dk3' : Deck H3 D C R (b + 17) := dk3.mono (by revert ln1; split <;> omega)
    have ln1a : ns.length ≤ 3 := by revert ln1; split <;> omega
    have ln1b : (ns.length : Int) ≤ l0 := by revert ln1; split <;> omega
    have kB : Keep [D, R] H H3 := kA.trans kp3
    have eL3 := kB L _ eL (notDR nLD nLR)
    -- the flaps
    refine ⟨.ref D, rfl, .int l, rfl, l, 1, rfl, rfl, .ref L, rfl, L, _, 1, .int l1, rfl, rfl, SqL.of eL3, atI_nat (j := 1) rfl, show 4 ≤ sizeLine by decide, fun a5 n5 => ?_⟩
    refine ⟨.ref D, rfl, D, C, R, b + 17, 4, rfl, by decide, by decide, dk3'.new n5, by omega, fun H4 k4 kp4 dk4 a3 a4' => ?_⟩
    obtain ⟨n51, n52, n53⟩ := dk3'.ne n5
    obtain ⟨j4, g4, hj4⟩ := pick4 0 0 1 2 k4.toNat (by omega)
    refine ⟨a5, _, k4, .int j4, rfl, rfl, SqL.of (kp4 a5 _ upd_same (notDR n51 n53)), atI_of a3 g4, l1, j4, rfl, ?_⟩
    have kC : Keep [D, R] H3 H4 := (Keep.new n5).trans kp4
    refine ⟨D, C, R, b + 17 + 1, 0, l - 1, _, rfl, by omega, by split <;> omega, by split <;> omega, dk4, by omega, fun H5 ha ms kp5 dk5 nha eha pw2 in2 ln2 => ?_⟩
    have dk5' : Deck H5 D C R (b + 24) := dk5.mono (by revert ln2; split <;> omega)
    have ln2a : ms.length ≤ 2 := by revert ln2; split <;> omega
    have ln2b : (ms.length : Int) ≤ l1 := by revert ln2; split <;> omega
    have kD : Keep [D, R] H3 H5 := kC.trans kp5
    have kE : Keep [D, R] H H5 := kB.trans kD
    have eL5 := kE L _ eL (notDR nLD nLR)
    have nsD : sa ≠ D ∧ sa ≠ R ∧ sa ≠ L ∧ sa ≠ C := by
      have z := kA.free dk2 nsa
      obtain ⟨z1, z2, z3⟩ := dk2.ne nsa
      exact ⟨z1, z3, (ne_of_none eL2 nsa).symm, z2⟩
    have esa5 := kD sa _ esa (notDR nsD.1 nsD.2.1)
    have eL4 := kC L _ eL3 (notDR nLD nLR)
    have nhD : ha ≠ D ∧ ha ≠ R ∧ ha ≠ L ∧ ha ≠ C := by
      obtain ⟨z1, z2, z3⟩ := dk4.ne nha
      exact ⟨z1, z3, (ne_of_none eL4 nha).symm, z2⟩
    -- what is left
    refine ⟨.ref L, rfl, L, _, 0, .int l0, rfl, rfl, SqL.of eL5, atI_nat (j := 0) rfl, .ref sa, rfl, sa, _, rfl, .inl (SqL.of esa5), l0, _, rfl, rfl, .ref L, rfl, L, _, 0, 0, rfl, rfl, eL5, rfl, ?_⟩
    rw [List.length_map]
    have esa6 : (upd H5 L (.lst [.int (l0 - (ns.length : Int)), .int l1])) sa = some (.lst (ns.map V.int)) := by rw [upd_ne nsD.2.2.1]; exact esa5
    have eha6 : (upd H5 L (.lst [.int (l0 - (ns.length : Int)), .int l1])) ha = some (.lst (ms.map V.int)) := by rw [upd_ne nhD.2.2.1]; exact eha
    refine ⟨.ref L, rfl, L, [.int (l0 - (ns.length : Int)), .int l1], 1, .int l1, rfl, rfl, SqL.of upd_same, atI_nat (j := 1) rfl, .ref ha, rfl, ha, _, rfl, .inl (SqL.of eha6), l1, _, rfl, rfl, .ref L, rfl, L, [.int (l0 - (ns.length : Int)), .int l1], 1, 1, rfl, rfl, upd_same, rfl, ?_⟩
    rw [List.length_map, upd_upd]
    show (_ : Prop)
    generalize hG : upd H5 L (.lst ([V.int (l0 - (ns.length : Int)), V.int l1].set 1 (V.int (l1 - (ms.length : Int))))) = G
    have eG : upd H5 L (.lst [.int (l0 - (ns.length : Int)), .int (l1 - (ms.length : Int))]) = G := hG
    have esaG : G sa = some (.lst (ns.map V.int)) := by rw [← eG, upd_ne nsD.2.2.1]; exact esa5
    have ehaG : G ha = some (.lst (ms.map V.int)) := by rw [← eG, upd_ne nhD.2.2.1]; exact eha
    have eLG : G L = some (.lst [.int (l0 - (ns.length : Int)), .int (l1 - (ms.length : Int))]) := by rw [← eG]; exact upd_same
    have dkG : Deck G D C R (b + 24) := by rw [← eG]; exact dk5'.other nLD nLC nLR
    have kG : Keep [D, R, L] H G := by
      rw [← eG]; exact (kE.mono (by intro z hz; simp only [List.mem_cons, List.not_mem_nil, or_false] at hz ⊢; rcases hz with hz | hz <;> simp [hz])).trans (Keep.put (by simp))
    have trG : Tr av G := by rw [← eG]; exact (tr.keep kE dk5').upd
    -- narrows
    refine ⟨.ref sa, rfl, sa, rfl, ⟨_, SqL.of esaG⟩, fun W nW => ?_⟩
    have nWD := dkG.ne nW
    refine lc_list (K := K) (a := sa) (xs := ns.map V.int)
      (fun i J => Keep [D, R] G J ∧ Deck J D C R (b + 24 + 3 * i) ∧ ∃ (na : List (Int × Int)) (us : List V), na.length = i ∧ na.map (·.1) = ns.take i ∧ (∀ p ∈ na, 1 ≤ p.2 ∧ p.2 ≤ 1000000) ∧ J W = some (.lst us) ∧ Dts (W :: av) J us (na.map prD))
      ⟨Keep.new nW, (dkG.new nW).mono (by omega), [], [], rfl, rfl, fun _ z => absurd z List.not_mem_nil, upd_same, .nil⟩ (fun i J _ p => SqL.of (p.1 sa _ esaG (notDR nsD.1 nsD.2.1))) (fun i v J hx p => ?_) (fun J p => ?_)
    · obtain ⟨k1, d1, na, us, e1, e2, e3, e4, e5⟩ := p
      rw [List.getElem?_map] at hx
      obtain ⟨n, hn, rfl⟩ := Option.map_eq_some_iff.mp hx
      have hi : i < ns.length := (List.getElem?_eq_some_iff.mp hn).1
      have trJ : Tr (W :: av) J := (trG.keep k1 d1).cons e4
      refine ⟨rfl, .int n, rfl, .ref D, rfl, 10, 6, rfl, rfl, ⟨by decide, by decide, by decide⟩, show 2 ≤ sizeLine by decide, fun a6 n6 => ?_⟩
      obtain ⟨n61, n62, n63⟩ := d1.ne n6
      obtain ⟨m, gm, hm1, hm2⟩ : ∃ m : Int, atI [V.int 3, V.int ((10 : Int) ^ (6 : Int).toNat)] far = some (.int m) ∧ 1 ≤ m ∧ m ≤ 1000000 := by
        rcases hf with rfl | rfl
        · exact ⟨3, atI_nat (j := 0) rfl, by decide, by decide⟩
        · exact ⟨(10 : Int) ^ (6 : Int).toNat, atI_nat (j := 1) rfl, by decide, by decide⟩
      refine ⟨.int far, rfl, a6, _, far, .int m, rfl, rfl, SqL.of upd_same, gm, D, C, R, _, m, rfl, hm1, by omega, d1.new n6, by omega, fun J2 k kp d2 b1 b2 => ?_⟩
      have k2 : Keep [D, R] J J2 := (Keep.new n6).trans kp
      have e4' := k2 W _ e4 (notDR nWD.1 nWD.2.2)
      have e5' : Dts (W :: av) J2 us (na.map prD) := e5.keep (k2.mono (by intro z hz; simp only [List.mem_cons, List.not_mem_nil, or_false] at hz; rcases hz with hz | hz <;> (subst hz; simp [mD, mR])))
      have trJ2 : Tr (W :: av) J2 := trJ.keep k2 d2
      refine ⟨1, k, rfl, rfl, show 2 ≤ sizeLine by decide, fun t nt => ?_⟩
      have ntav := trJ2.not nt
      have e6 : (upd J2 t (.tup [.int n, .int (1 + k)])) W = some (.lst us) := by rw [upd_ne (ne_of_none e4' nt)]; exact e4'
      refine ⟨us, e6, ?_, ?_, ?_, na ++ [(n, 1 + k)], us ++ [.ref t], by rw [List.length_append, e1]; rfl, ?_, ?_, upd_same, ?_⟩
      · have := e5.len
        rw [List.length_map, e1] at this
        rw [this]; exact small1000 (by omega)
      · exact (k1.trans (k2.trans (Keep.new nt))).upd nW
      · have z := d2.new (o := .tup [.int n, .int (1 + k)]) nt
        exact (z.other nWD.1 nWD.2.1 nWD.2.2).mono (by have : ((i + 1 : Nat) : Int) = (i : Int) + 1 := by omega
                                                       omega)
      · rw [List.map_append, e2, List.take_add_one, hn]; rfl
      · intro p hp
        rcases List.mem_append.mp hp with hp | hp
        · exact e3 p hp
        · rw [List.mem_singleton.mp hp]; exact ⟨by show 1 ≤ 1 + k; omega, by show 1 + k ≤ 1000000; omega⟩
      · rw [List.map_append]
        have z : Dts (W :: av) (upd J2 t (.tup [.int n, .int (1 + k)])) (us ++ [.ref t]) (na.map prD ++ [prD (n, 1 + k)]) :=
          (e5'.keep (Keep.new nt)).app (.cons (.tup ntav upd_same (.cons (.int n) (.cons (.int (1 + k)) .nil))) .nil)
        exact z.keep (Keep.put List.mem_cons_self)
    · obtain ⟨k1, d1, na, us, e1, e2, e3, e4, e5⟩ := p
      rw [List.length_map] at d1 e1 e2
      rw [List.take_of_length_le (Nat.le_refl _)] at e2
      refine ⟨W, us, rfl, .inl ⟨SqL.of e4, fun T nT => ?_⟩⟩
      have trJ : Tr (W :: av) J := (trG.keep k1 d1).cons e4
      have dT : Dt av (upd J T (.tup us)) (.ref T) (.tuple (na.map prD)) :=
        .tup (fun m => trJ.not nT (List.mem_cons_of_mem _ m)) upd_same ((e5.keep (Keep.new nT)).less fun a m => List.mem_cons_of_mem _ m)
      have k2 : Keep [D, R] G (upd J T (.tup us)) := k1.trans (Keep.new nT)
      have d2 : Deck (upd J T (.tup us)) D C R (b + 33) := (d1.new nT).mono (by omega)
      have trT : Tr av (upd J T (.tup us)) := trG.keep k2 d2
      generalize upd J T (.tup us) = G2 at *
      have ehaG2 := k2 ha _ ehaG (notDR nhD.1 nhD.2.1)
      have eLG2 := k2 L _ eLG (notDR nLD nLR)
      refine ⟨.int x, rfl, .int y, rfl, .int l, rfl, .ref T, rfl, .ref ha, rfl, ha, rfl, ⟨_, SqL.of ehaG2⟩, fun W2 nW2 => ?_⟩
      have nWE := d2.ne nW2
      refine lc_list (K := K) (a := ha) (xs := ms.map V.int)
        (fun i J => Keep [D, R] G2 J ∧ Deck J D C R (b + 33 + i) ∧ ∃ (fl : List (Int × Int)) (us : List V), fl.length = i ∧ fl.map (·.1) = ms.take i ∧ (∀ p ∈ fl, p.2 = 1 ∨ p.2 = -1) ∧ J W2 = some (.lst us) ∧ Dts (W2 :: av) J us (fl.map prD))
        ⟨Keep.new nW2, (d2.new nW2).mono (by omega), [], [], rfl, rfl, fun _ z => absurd z List.not_mem_nil, upd_same, .nil⟩ (fun i J _ p => SqL.of (p.1 ha _ ehaG2 (notDR nhD.1 nhD.2.1))) (fun i v J hx p => ?_) (fun J p => ?_)
      · obtain ⟨k1, d1, fl, us, f1, f2, f3, f4, f5⟩ := p
        rw [List.getElem?_map] at hx
        obtain ⟨n, hn, rfl⟩ := Option.map_eq_some_iff.mp hx
        have hi : i < ms.length := (List.getElem?_eq_some_iff.mp hn).1
        have trJ : Tr (W2 :: av) J := (trT.keep k1 d1).cons f4
        refine ⟨rfl, .int n, rfl, .ref D, rfl, D, C, R, _, 2, rfl, by decide, by decide, d1, by omega, fun J2 k kp dk' b1 b2 => ?_⟩
        have f4' := kp W2 _ f4 (notDR nWE.1 nWE.2.2)
        have f5' : Dts (W2 :: av) J2 us (fl.map prD) := f5.keep (kp.mono (by intro z hz; simp only [List.mem_cons, List.not_mem_nil, or_false] at hz; rcases hz with hz | hz <;> (subst hz; simp [mD, mR])))
        have trJ2 : Tr (W2 :: av) J2 := trJ.keep kp dk'
        refine ⟨2, k, rfl, rfl, .inl ⟨by decide, by decide⟩, 1, _, rfl, rfl, show 2 ≤ sizeLine by decide, fun t nt => ?_⟩
        have ntav := trJ2.not nt
        have e6 : (upd J2 t (.tup [.int n, .int (1 - 2 * k)])) W2 = some (.lst us) := by rw [upd_ne (ne_of_none f4' nt)]; exact f4'
        refine ⟨us, e6, ?_, ?_, ?_, fl ++ [(n, 1 - 2 * k)], us ++ [.ref t], by rw [List.length_append, f1]; rfl, ?_, ?_, upd_same, ?_⟩
        · have := f5.len
          rw [List.length_map, f1] at this
          rw [this]; exact small1000 (by omega)
        · exact (k1.trans (kp.trans (Keep.new nt))).upd nW2
        · have z := dk'.new (o := .tup [.int n, .int (1 - 2 * k)]) nt
          exact (z.other nWE.1 nWE.2.1 nWE.2.2).mono (by have : ((i + 1 : Nat) : Int) = (i : Int) + 1 := by omega
                                                         omega)
        · rw [List.map_append, f2, List.take_add_one, hn]; rfl
        · intro p hp
          rcases List.mem_append.mp hp with hp | hp
          · exact f3 p hp
          · rw [List.mem_singleton.mp hp]
            show 1 - 2 * k = 1 ∨ 1 - 2 * k = -1
            omega
        · rw [List.map_append]
          have z : Dts (W2 :: av) (upd J2 t (.tup [.int n, .int (1 - 2 * k)])) (us ++ [.ref t]) (fl.map prD ++ [prD (n, 1 - 2 * k)]) :=
            (f5'.keep (Keep.new nt)).app (.cons (.tup ntav upd_same (.cons (.int n) (.cons (.int (1 - 2 * k)) .nil))) .nil)
          exact z.keep (Keep.put List.mem_cons_self)
      · obtain ⟨k3, d3, fl, us', f1, f2, f3, f4, f5⟩ := p
        rw [List.length_map] at d3 f1 f2
        rw [List.take_of_length_le (Nat.le_refl _)] at f2
        refine ⟨W2, us', rfl, .inl ⟨SqL.of f4, fun T2 nT2 => ?_⟩⟩
        have trJ : Tr (W2 :: av) J := (trT.keep k3 d3).cons f4
        refine ⟨show 5 ≤ sizeLine by decide, fun p np => ?_⟩
        have kU : Keep av J (upd J T2 (.tup us')) := Keep.new nT2
        have kV : Keep av (upd J T2 (.tup us')) (upd (upd J T2 (.tup us')) p (.tup [.int x, .int y, .int l, .ref T, .ref T2])) := Keep.new np
        have kJ : Keep av G2 J := k3.mono (by intro z hz; simp only [List.mem_cons, List.not_mem_nil, or_false] at hz; rcases hz with hz | hz <;> (subst hz; assumption))
        have tav : Tr av J := fun a m => trJ a (List.mem_cons_of_mem _ m)
        have dT2 : Dt av (upd J T2 (.tup us')) (.ref T2) (.tuple (fl.map prD)) := .tup (tav.not nT2) upd_same ((f5.keep (Keep.new nT2)).less fun a m => List.mem_cons_of_mem _ m)
        have tU : Tr av (upd J T2 (.tup us')) := tav.upd
        have dTT := ((dT.keep kJ).keep kU).keep kV
        have dT2T := dT2.keep kV
        have k5 : Keep [D, R, L] H (upd (upd J T2 (.tup us')) p (.tup [.int x, .int y, .int l, .ref T, .ref T2])) :=
          kG.trans (((k2.trans (k3.trans ((Keep.new nT2).trans (Keep.new np))))).mono (by intro z hz; simp only [List.mem_cons, List.not_mem_nil, or_false] at hz ⊢; rcases hz with hz | hz <;> simp [hz]))
        refine q _ p l na fl k5 (((d3.new nT2).new np).mono (by omega)) ?_ (by omega) (by omega) ⟨hl1, hl2, by rw [e2]; exact pw1, fun z hz => ?_, by rw [f2]; exact pw2, fun z hz => ?_, by omega, by omega⟩ (fun z => hl4 (by omega)) ?_ tU.upd
        · have z3 := k3 L _ eLG2 (notDR nLD nLR)
          have z4 : (upd J T2 (.tup us')) L = _ := (Keep.new (av := []) nT2) L _ z3 List.not_mem_nil
          have z5 := (Keep.new (av := []) (o := .tup [.int x, .int y, .int l, .ref T, .ref T2]) np) L _ z4 List.not_mem_nil
          rw [z5, e1, f1]
        · have m1 : z.1 ∈ ns := by rw [← e2]; exact List.mem_map_of_mem hz
          have := in1 _ m1
          have := e3 z hz
          omega
        · have m1 : z.1 ∈ ms := by rw [← f2]; exact List.mem_map_of_mem hz
          have := in2 _ m1
          exact ⟨this.1, this.2, f3 z hz⟩
        · exact .tup (tU.not np) upd_same (.cons (.int x) (.cons (.int y) (.cons (.int l) (.cons dTT (.cons dT2T .nil)))))
end
end Rw

namespace Rw
/-! ### rooms joined by pipes: two ways to look, one word -/
abbrev Ed := Nat × Nat
/-! what any parting of the rooms that no pipe crosses says -/
def Con (n : Nat) (E : List Ed) : Prop := ∀ S : Nat → Bool, (∀ e ∈ E, S e.1 = S e.2) → ∀ a, a < n → S a = S 0
/-! groups -/
def grp (g : List Int) (a : Nat) : Int := g.getD a 0
def merge (k o : Int) (g : List Int) : List Int := g.map fun v => if v = o then k else v
def step (g : List Int) (e : Ed) : List Int := merge (grp g e.1) (grp g e.2) g
def joins : List Int → List Ed → Bool
  | _, [] => true
  | g, e :: E => if grp g e.1 = grp g e.2 then false else joins (step g e) E
def start (n : Nat) : List Int := (List.range n).map Int.ofNat
theorem merge_len (k o : Int) (g : List Int) : (merge k o g).length = g.length := List.length_map _
theorem merge_grp {g : List Int} {a : Nat} (h : a < g.length) (k o : Int) : grp (merge k o g) a = if grp g a = o then k else grp g a := by
  unfold grp merge
  rw [List.getD_eq_getElem?_getD, List.getElem?_map, List.getD_eq_getElem?_getD, List.getElem?_eq_getElem h]
  rfl
theorem merge_self (k : Int) (g : List Int) : merge k k g = g := by
  unfold merge
  conv => rhs; rw [← List.map_id g]
  apply List.map_congr_left
  intro v _
  by_cases h : v = k
  · rw [if_pos h, h]; rfl
  · rw [if_neg h]; rfl
/-! how many names of groups are left -/
def used (n : Nat) (g : List Int) : List Nat := (List.range n).filter fun v => decide ((v : Int) ∈ g)
theorem grp_mem {g : List Int} {a : Nat} (h : a < g.length) : grp g a ∈ g := by
  unfold grp
  rw [List.getD_eq_getElem?_getD, List.getElem?_eq_getElem h]
  exact List.getElem_mem h
theorem mem_grp {g : List Int} {v : Int} (h : v ∈ g) : ∃ a, a < g.length ∧ grp g a = v := by
  obtain ⟨a, ha, e⟩ := List.mem_iff_getElem.mp h
  refine ⟨a, ha, ?_⟩
  unfold grp
  rw [List.getD_eq_getElem?_getD, List.getElem?_eq_getElem ha, ← e]; rfl
theorem mem_merge {k o v : Int} {g : List Int} (hk : k ∈ g) (hko : k ≠ o) : v ∈ merge k o g ↔ v ∈ g ∧ v ≠ o := by
  unfold merge
  rw [List.mem_map]
  constructor
  · rintro ⟨u, hu, e⟩
    by_cases h : u = o
    · rw [if_pos h] at e; subst e; exact ⟨hk, hko⟩
    · rw [if_neg h] at e; subst e; exact ⟨hu, h⟩
  · rintro ⟨hv, ho⟩
    exact ⟨v, hv, if_neg ho⟩
theorem filter_drop {n : Nat} {p : Nat → Bool} {o : Nat} : ∀ l : List Nat, l.Nodup → o ∈ l → p o = true → (l.filter fun v => p v && decide (v ≠ o)).length + 1 = (l.filter p).length
  | [], _, h, _ => nomatch h
  | x :: l, nd, h, hp => by
    rw [List.nodup_cons] at nd
    by_cases e : x = o
    · subst e
      have z : (l.filter fun v => p v && decide (v ≠ x)) = l.filter p := by
        apply List.filter_congr
        intro v hv
        have : v ≠ x := fun q => nd.1 (q ▸ hv)
        rw [decide_eq_true this, Bool.and_true]
      rw [List.filter_cons, List.filter_cons, hp]
      simp only [ne_eq, not_true_eq_false, decide_false, Bool.and_false, Bool.false_eq_true, if_false, if_true]
      rw [List.length_cons]
      simp only [ne_eq] at z
      rw [z]
    · have h' : o ∈ l := (List.mem_cons.mp h).elim (fun q => absurd q.symm e) id
      have ih := filter_drop (n := n) l nd.2 h' hp
      rw [List.filter_cons, List.filter_cons, decide_eq_true e, Bool.and_true]
      by_cases px : p x = true
      · rw [if_pos px, if_pos px, List.length_cons, List.length_cons]; omega
      · rw [if_neg px, if_neg px]; exact ih
structure Gs (n : Nat) (g : List Int) : Prop where
  len : g.length = n
  rng : ∀ v ∈ g, 0 ≤ v ∧ v < n
theorem Gs.start (n : Nat) : Gs n (start n) := by
  refine ⟨by unfold Rw.start; rw [List.length_map, List.length_range], fun v hv => ?_⟩
  unfold Rw.start at hv
  obtain ⟨a, ha, rfl⟩ := List.mem_map.mp hv
  have := List.mem_range.mp ha
  exact ⟨Int.natCast_nonneg a, Int.ofNat_lt.mpr this⟩
theorem Gs.step {n : Nat} {g : List Int} {e : Ed} (h : Gs n g) (h1 : e.1 < n) (h2 : e.2 < n) : Gs n (step g e) := by
  refine ⟨by unfold Rw.step; rw [merge_len]; exact h.len, fun v hv => ?_⟩
  unfold Rw.step merge at hv
  obtain ⟨u, hu, rfl⟩ := List.mem_map.mp hv
  by_cases q : u = grp g e.2
  · rw [if_pos q]; exact h.rng _ (grp_mem (by rw [h.len]; exact h1))
  · rw [if_neg q]; exact h.rng u hu
theorem used_step {n : Nat} {g : List Int} {e : Ed} (h : Gs n g) (h1 : e.1 < n) (h2 : e.2 < n) (ne : grp g e.1 ≠ grp g e.2) : (used n (step g e)).length + 1 = (used n g).length := by
  have m1 : grp g e.1 ∈ g := grp_mem (by rw [h.len]; exact h1)
  have m2 : grp g e.2 ∈ g := grp_mem (by rw [h.len]; exact h2)
  have r2 := h.rng _ m2
  have eo : ((grp g e.2).toNat : Int) = grp g e.2 := by omega
  unfold used Rw.step
  have z : ((List.range n).filter fun (v : Nat) => decide ((v : Int) ∈ merge (grp g e.1) (grp g e.2) g)) = (List.range n).filter fun (v : Nat) => decide ((v : Int) ∈ g) && decide (v ≠ (grp g e.2).toNat) := by
    apply List.filter_congr
    intro v _
    rw [← Bool.decide_and]
    apply decide_eq_decide.mpr
    rw [mem_merge m1 ne]
    constructor
    · rintro ⟨a, b⟩; exact ⟨a, fun q => b (by rw [q]; exact eo)⟩
    · rintro ⟨a, b⟩; exact ⟨a, fun q => b (by omega)⟩
  rw [z]
  exact filter_drop (n := n) (List.range n) List.nodup_range (List.mem_range.mpr (by omega)) (decide_eq_true (by rw [eo]; exact m2))
theorem used_start (n : Nat) : (used n (start n)).length = n := by
  unfold used
  rw [List.filter_eq_self.mpr (fun v hv => decide_eq_true (by unfold Rw.start; exact List.mem_map.mpr ⟨v, hv, rfl⟩)), List.length_range]
/-! all pipes taken, whether or not they join anew -/
def run (g : List Int) (E : List Ed) : List Int := E.foldl step g
theorem run_gs {n : Nat} : ∀ (E : List Ed) (g : List Int), (∀ e ∈ E, e.1 < n ∧ e.2 < n) → Gs n g → Gs n (run g E)
  | [], g, _, h => h
  | e :: E, g, hE, h => run_gs E (step g e) (fun f m => hE f (List.mem_cons_of_mem _ m)) (h.step (hE e List.mem_cons_self).1 (hE e List.mem_cons_self).2)
theorem used_run {n : Nat} : ∀ (E : List Ed) (g : List Int), (∀ e ∈ E, e.1 < n ∧ e.2 < n) → Gs n g → (used n g).length ≤ (used n (run g E)).length + E.length ∧ (joins g E = true → (used n g).length = (used n (run g E)).length + E.length) ∧ (joins g E = false → (used n g).length < (used n (run g E)).length + E.length)
  | [], g, _, h => ⟨Nat.le_refl _, fun _ => rfl, fun q => nomatch q⟩
  | e :: E, g, hE, h => by
    have he := hE e List.mem_cons_self
    have ih := used_run E (step g e) (fun f m => hE f (List.mem_cons_of_mem _ m)) (h.step he.1 he.2)
    have er : run g (e :: E) = run (step g e) E := rfl
    have ej : joins g (e :: E) = if grp g e.1 = grp g e.2 then false else joins (step g e) E := rfl
    rw [er, ej, List.length_cons]
    by_cases q : grp g e.1 = grp g e.2
    · have es : step g e = g := by unfold Rw.step; rw [q]; exact merge_self _ _
      rw [es] at ih ⊢
      rw [if_pos q]
      exact ⟨by omega, fun z => absurd z (by decide), fun _ => by omega⟩
    · have u := used_step h he.1 he.2 q
      rw [if_neg q]
      refine ⟨by omega, fun z => ?_, fun z => ?_⟩
      · have := ih.2.1 z; omega
      · have := ih.2.2 z; omega
/-! rooms of one group stay of one group; a pipe's rooms are of one -/
theorem step_keep {g : List Int} {e : Ed} {a b : Nat} (ha : a < g.length) (hb : b < g.length) (h : grp g a = grp g b) : grp (step g e) a = grp (step g e) b := by
  unfold step
  rw [merge_grp ha, merge_grp hb, h]
theorem step_both {g : List Int} {e : Ed} (ha : e.1 < g.length) (hb : e.2 < g.length) : grp (step g e) e.1 = grp (step g e) e.2 := by
  unfold step
  rw [merge_grp ha, merge_grp hb, if_pos rfl]
  split <;> rfl
theorem run_keep {n : Nat} : ∀ (E : List Ed) (g : List Int), (∀ e ∈ E, e.1 < n ∧ e.2 < n) → Gs n g → ∀ a b, a < n → b < n → grp g a = grp g b → grp (run g E) a = grp (run g E) b
  | [], _, _, _, _, _, _, _, h => h
  | e :: E, g, hE, hg, a, b, ha, hb, h => by
    have he := hE e List.mem_cons_self
    exact run_keep E (step g e) (fun f m => hE f (List.mem_cons_of_mem _ m)) (hg.step he.1 he.2) a b ha hb (step_keep (by rw [hg.len]; exact ha) (by rw [hg.len]; exact hb) h)
theorem run_edges {n : Nat} : ∀ (E : List Ed) (g : List Int), (∀ e ∈ E, e.1 < n ∧ e.2 < n) → Gs n g → ∀ e ∈ E, grp (run g E) e.1 = grp (run g E) e.2
  | [], _, _, _, _, m => nomatch m
  | e :: E, g, hE, hg, f, m => by
    have he := hE e List.mem_cons_self
    have hg' := hg.step he.1 he.2
    have hE' : ∀ f ∈ E, f.1 < n ∧ f.2 < n := fun f m => hE f (List.mem_cons_of_mem _ m)
    rcases List.mem_cons.mp m with m | m
    · subst m
      exact run_keep E (step g f) hE' hg' f.1 f.2 he.1 he.2 (step_both (by rw [hg.len]; exact he.1) (by rw [hg.len]; exact he.2))
    · exact run_edges E (step g e) hE' hg' f m
/-! a parting that no pipe crosses holds groups together -/
theorem run_part {n : Nat} (S : Nat → Bool) : ∀ (E : List Ed) (g : List Int), (∀ e ∈ E, e.1 < n ∧ e.2 < n) → (∀ e ∈ E, S e.1 = S e.2) → Gs n g → (∀ a b, a < n → b < n → grp g a = grp g b → S a = S b) → ∀ a b, a < n → b < n → grp (run g E) a = grp (run g E) b → S a = S b
  | [], _, _, _, _, h, a, b, ha, hb, e => h a b ha hb e
  | e :: E, g, hE, hS, hg, h, a, b, ha, hb, q => by
    have he := hE e List.mem_cons_self
    have hs := hS e List.mem_cons_self
    refine run_part S E (step g e) (fun f m => hE f (List.mem_cons_of_mem _ m)) (fun f m => hS f (List.mem_cons_of_mem _ m)) (hg.step he.1 he.2) (fun c d hc hd z => ?_) a b ha hb q
    unfold step at z
    rw [merge_grp (by rw [hg.len]; exact hc), merge_grp (by rw [hg.len]; exact hd)] at z
    by_cases c1 : grp g c = grp g e.2
    · by_cases d1 : grp g d = grp g e.2
      · exact h c d hc hd (c1.trans d1.symm)
      · rw [if_pos c1, if_neg d1] at z
        rw [h c e.2 hc he.2 c1, ← hs, h d e.1 hd he.1 z.symm]
    · by_cases d1 : grp g d = grp g e.2
      · rw [if_neg c1, if_pos d1] at z
        rw [h d e.2 hd he.2 d1, ← hs, h c e.1 hc he.1 z]
      · rw [if_neg c1, if_neg d1] at z
        exact h c d hc hd z
theorem start_inj {n a b : Nat} (ha : a < n) (hb : b < n) (h : grp (start n) a = grp (start n) b) : a = b := by
  unfold grp start at h
  rw [List.getD_eq_getElem?_getD, List.getD_eq_getElem?_getD, List.getElem?_map, List.getElem?_map, List.getElem?_range ha, List.getElem?_range hb] at h
  exact Int.ofNat.inj h
theorem one_used {n : Nat} {g : List Int} (hg : Gs n g) (h : (used n g).length ≤ 1) {a b : Nat} (ha : a < n) (hb : b < n) : grp g a = grp g b := by
  have ma := grp_mem (g := g) (by rw [hg.len]; exact ha)
  have mb := grp_mem (g := g) (by rw [hg.len]; exact hb)
  have ra := hg.rng _ ma
  have rb := hg.rng _ mb
  have ua : (grp g a).toNat ∈ used n g := List.mem_filter.mpr ⟨List.mem_range.mpr (by omega), decide_eq_true (by rw [show (((grp g a).toNat : Nat) : Int) = grp g a by omega]; exact ma)⟩
  have ub : (grp g b).toNat ∈ used n g := List.mem_filter.mpr ⟨List.mem_range.mpr (by omega), decide_eq_true (by rw [show (((grp g b).toNat : Nat) : Int) = grp g b by omega]; exact mb)⟩
  match hu : used n g, h with
  | [], _ => rw [hu] at ua; exact absurd ua List.not_mem_nil
  | [x], _ =>
    rw [hu] at ua ub
    have e1 := List.mem_singleton.mp ua
    have e2 := List.mem_singleton.mp ub
    omega
theorem used_one {n : Nat} {g : List Int} (hg : Gs n g) (h : ∀ a, a < n → grp g a = grp g 0) : (used n g).length ≤ 1 := by
  have nd : (used n g).Nodup := List.nodup_range.filter _
  have all : ∀ v ∈ used n g, (v : Int) = grp g 0 := fun v hv => by
    obtain ⟨a, ha, e⟩ := mem_grp (of_decide_eq_true (List.mem_filter.mp hv).2)
    rw [← e]
    exact h a (by rw [← hg.len]; exact ha)
  match hu : used n g, nd, all with
  | [], _, _ => exact Nat.zero_le _
  | [x], _, _ => exact Nat.le_refl _
  | x :: y :: r, nd, all =>
    have e1 := all x List.mem_cons_self
    have e2 := all y (List.mem_cons_of_mem _ List.mem_cons_self)
    rw [List.nodup_cons] at nd
    exact absurd (show x ∈ y :: r by rw [show x = y by omega]; exact List.mem_cons_self) nd.1
theorem joins_iff {n : Nat} {E : List Ed} (hn : 0 < n) (hE : ∀ e ∈ E, e.1 < n ∧ e.2 < n) (hl : E.length + 1 = n) : joins (start n) E = true ↔ Con n E := by
  have hg := Gs.start n
  have hr := run_gs E (start n) hE hg
  have hu := used_run E (start n) hE hg
  rw [used_start] at hu
  constructor
  · intro hj S hS a ha
    have h1 := hu.2.1 hj
    have eq := one_used hr (by omega) ha hn
    exact run_part S E (start n) hE hS hg (fun c d hc hd z => by rw [start_inj hc hd z]) a 0 ha hn eq
  · intro hc
    cases hj : joins (start n) E with
    | true => rfl
    | false =>
      have h1 := hu.2.2 hj
      have all : ∀ a, a < n → grp (run (start n) E) a = grp (run (start n) E) 0 := fun a ha => by
        have z := hc (fun a => decide (grp (run (start n) E) a = grp (run (start n) E) 0)) (fun e m => by
          have := run_edges E (start n) hE hg e m
          show decide _ = decide _
          rw [this]) a ha
        have z0 : decide (grp (run (start n) E) 0 = grp (run (start n) E) 0) = true := decide_eq_true rfl
        exact of_decide_eq_true (z.trans z0)
      have := used_one hr all
      omega
end Rw

namespace Rw
structure Pi where
  x : Int
  y : Int
  l : Int
  na : List (Int × Int)
  fl : List (Int × Int)
deriving Inhabited
def edges (ps : List Pi) : List Ed := ps.map fun p => (p.x.toNat, p.y.toNat)
end Rw

namespace Rw
/-! ### distances of rooms in a house: a tree's metric, built pipe by pipe -/
def Dn (ps : List Pi) (d : Int → Int → Int) (s t : Int) (i : Nat) : Prop :=
  ∃ p, ps[i]? = some p ∧ ((p.x = t ∧ d s p.y + p.l = d s t) ∨ (p.y = t ∧ d s p.x + p.l = d s t))
structure FM (ps : List Pi) (g : Int → Int) (d : Int → Int → Int) : Prop where
  len : ∀ p ∈ ps, 1 ≤ p.l
  zero : ∀ s, d s s = 0
  sym : ∀ s t, d s t = d t s
  pos : ∀ s t, g s = g t → s ≠ t → 0 < d s t
  ends : ∀ p ∈ ps, g p.x = g p.y
  step : ∀ p ∈ ps, ∀ s, g s = g p.x → d s p.x = d s p.y + p.l ∨ d s p.y = d s p.x + p.l
  par : ∀ s t, g s = g t → s ≠ t → ∃ i, Dn ps d s t i
  uni : ∀ s t i j, g s = g t → Dn ps d s t i → Dn ps d s t j → i = j
  side : ∀ (i j : Nat) (p q : Pi), i ≠ j → ps[i]? = some p → ps[j]? = some q → g p.x = g q.x → d p.x q.x - d p.y q.x = d p.x q.y - d p.y q.y
theorem FM.nn {ps : List Pi} {g : Int → Int} {d : Int → Int → Int} (F : FM ps g d) {s t : Int} (h : g s = g t) : 0 ≤ d s t := by
  by_cases e : s = t
  · subst e; rw [F.zero]; exact Int.le_refl 0
  · have := F.pos s t h e; omega
def g1 (g : Int → Int) (p : Pi) (r : Int) : Int := if g r = g p.y then g p.x else g r
def d1 (g : Int → Int) (d : Int → Int → Int) (p : Pi) (s t : Int) : Int :=
  if g s = g t then d s t else if g s = g p.x ∧ g t = g p.y then d s p.x + p.l + d p.y t else if g s = g p.y ∧ g t = g p.x then d s p.y + p.l + d p.x t else 0
theorem FM.empty : FM [] id (fun _ _ => 0) where
  len := fun _ h => nomatch h
  zero := fun _ => rfl
  sym := fun _ _ => rfl
  pos := fun s t h n => absurd h n
  ends := fun _ h => nomatch h
  step := fun _ h => nomatch h
  par := fun s t h n => absurd h n
  uni := fun _ _ _ _ _ ⟨_, h, _⟩ => by simp at h
  side := fun _ _ _ _ _ h => by simp at h
section
variable {ps : List Pi} {g : Int → Int} {d : Int → Int → Int} {p : Pi}
theorem d1_same {s t : Int} (h : g s = g t) : d1 g d p s t = d s t := by unfold d1; rw [if_pos h]
theorem d1_ab (ne : g p.x ≠ g p.y) {s t : Int} (h1 : g s = g p.x) (h2 : g t = g p.y) : d1 g d p s t = d s p.x + p.l + d p.y t := by
  unfold d1; rw [if_neg (by rw [h1, h2]; exact ne), if_pos ⟨h1, h2⟩]
theorem d1_ba (ne : g p.x ≠ g p.y) {s t : Int} (h1 : g s = g p.y) (h2 : g t = g p.x) : d1 g d p s t = d s p.y + p.l + d p.x t := by
  unfold d1; rw [if_neg (by rw [h1, h2]; exact ne.symm), if_neg (by rw [h1]; exact fun z => ne z.1.symm), if_pos ⟨h1, h2⟩]
theorem g1_cases {s t : Int} (h : g1 g p s = g1 g p t) : g s = g t ∨ (g s = g p.x ∧ g t = g p.y) ∨ (g s = g p.y ∧ g t = g p.x) := by
  unfold g1 at h
  split at h <;> split at h <;> rename_i a b
  · exact .inl (a.trans b.symm)
  · exact .inr (.inr ⟨a, h.symm⟩)
  · exact .inr (.inl ⟨h, b⟩)
  · exact .inl h
theorem get_snoc {i : Nat} {q : Pi} (h : (ps ++ [p])[i]? = some q) : (ps[i]? = some q ∧ q ∈ ps) ∨ (i = ps.length ∧ q = p) := by
  by_cases hi : i < ps.length
  · rw [List.getElem?_append_left hi] at h
    exact .inl ⟨h, List.mem_of_getElem? h⟩
  · rw [List.getElem?_append_right (by omega)] at h
    right
    have : i - ps.length = 0 := by
      apply Classical.byContradiction
      intro z
      rw [List.getElem?_eq_none (by simp; omega)] at h
      cases h
    rw [this] at h
    simp at h
    exact ⟨by omega, h.symm⟩
theorem snoc_get {i : Nat} {q : Pi} (h : ps[i]? = some q) : (ps ++ [p])[i]? = some q := by
  rw [List.getElem?_append_left (List.getElem?_eq_some_iff.mp h).1]; exact h
theorem snoc_last : (ps ++ [p])[ps.length]? = some p := by
  rw [List.getElem?_append_right (Nat.le_refl _), Nat.sub_self]; rfl
/-! going down: old pipes of the same group, of the other one -/
theorem dn_same (F : FM ps g d) {s t : Int} (h : g s = g t) {i : Nat} {q : Pi} (e : ps[i]? = some q) (m : q ∈ ps) :
    ((q.x = t ∧ d1 g d p s q.y + q.l = d1 g d p s t) ∨ (q.y = t ∧ d1 g d p s q.x + q.l = d1 g d p s t)) ↔ ((q.x = t ∧ d s q.y + q.l = d s t) ∨ (q.y = t ∧ d s q.x + q.l = d s t)) := by
  have en := F.ends q m
  rw [d1_same h]
  constructor <;> rintro (⟨a, b⟩ | ⟨a, b⟩)
  · exact .inl ⟨a, by rw [d1_same (by rw [h, ← a, en])] at b; exact b⟩
  · exact .inr ⟨a, by rw [d1_same (by rw [h, ← a, en])] at b; exact b⟩
  · exact .inl ⟨a, by rw [d1_same (by rw [h, ← a, en])]; exact b⟩
  · exact .inr ⟨a, by rw [d1_same (by rw [h, ← a, en])]; exact b⟩
theorem dn_ab (F : FM ps g d) (ne : g p.x ≠ g p.y) {s t : Int} (h1 : g s = g p.x) (h2 : g t = g p.y) {q : Pi} (m : q ∈ ps) :
    ((q.x = t ∧ d1 g d p s q.y + q.l = d1 g d p s t) ∨ (q.y = t ∧ d1 g d p s q.x + q.l = d1 g d p s t)) ↔ ((q.x = t ∧ d p.y q.y + q.l = d p.y t) ∨ (q.y = t ∧ d p.y q.x + q.l = d p.y t)) := by
  have en := F.ends q m
  rw [d1_ab ne h1 h2]
  constructor <;> rintro (⟨a, b⟩ | ⟨a, b⟩)
  · exact .inl ⟨a, by rw [d1_ab ne h1 (by rw [← h2, ← a, en])] at b; omega⟩
  · exact .inr ⟨a, by rw [d1_ab ne h1 (by rw [← h2, ← a, en])] at b; omega⟩
  · exact .inl ⟨a, by rw [d1_ab ne h1 (by rw [← h2, ← a, en])]; omega⟩
  · exact .inr ⟨a, by rw [d1_ab ne h1 (by rw [← h2, ← a, en])]; omega⟩
theorem dn_ba (F : FM ps g d) (ne : g p.x ≠ g p.y) {s t : Int} (h1 : g s = g p.y) (h2 : g t = g p.x) {q : Pi} (m : q ∈ ps) :
    ((q.x = t ∧ d1 g d p s q.y + q.l = d1 g d p s t) ∨ (q.y = t ∧ d1 g d p s q.x + q.l = d1 g d p s t)) ↔ ((q.x = t ∧ d p.x q.y + q.l = d p.x t) ∨ (q.y = t ∧ d p.x q.x + q.l = d p.x t)) := by
  have en := F.ends q m
  rw [d1_ba ne h1 h2]
  constructor <;> rintro (⟨a, b⟩ | ⟨a, b⟩)
  · exact .inl ⟨a, by rw [d1_ba ne h1 (by rw [← h2, ← a, en])] at b; omega⟩
  · exact .inr ⟨a, by rw [d1_ba ne h1 (by rw [← h2, ← a, en])] at b; omega⟩
  · exact .inl ⟨a, by rw [d1_ba ne h1 (by rw [← h2, ← a, en])]; omega⟩
  · exact .inr ⟨a, by rw [d1_ba ne h1 (by rw [← h2, ← a, en])]; omega⟩
/-! the new pipe and an old one can't both lead down -/
theorem dn_new_old (F : FM ps g d) (ne : g p.x ≠ g p.y) (hl : 1 ≤ p.l) {s t : Int} (h : g1 g p s = g1 g p t) {q : Pi} (m : q ∈ ps)
    (hp : (p.x = t ∧ d1 g d p s p.y + p.l = d1 g d p s t) ∨ (p.y = t ∧ d1 g d p s p.x + p.l = d1 g d p s t))
    (hq : (q.x = t ∧ d1 g d p s q.y + q.l = d1 g d p s t) ∨ (q.y = t ∧ d1 g d p s q.x + q.l = d1 g d p s t)) : False := by
  have en := F.ends q m
  have ql := F.len q m
  rcases hp with ⟨rfl, b⟩ | ⟨rfl, b⟩
  · rcases g1_cases h with c | ⟨c1, c2⟩ | ⟨c1, c2⟩
    · rw [d1_ab ne c rfl, d1_same c, F.zero] at b; omega
    · exact ne c2
    · rcases (dn_ba F ne c1 c2 m).mp hq with ⟨a, z⟩ | ⟨a, z⟩
      · have := F.nn (s := p.x) (t := q.y) (by rw [← en, a]); rw [F.zero] at z; omega
      · have := F.nn (s := p.x) (t := q.x) (by rw [en, a]); rw [F.zero] at z; omega
  · rcases g1_cases h with c | ⟨c1, c2⟩ | ⟨c1, c2⟩
    · rw [d1_ba ne c rfl, d1_same c, F.zero] at b; omega
    · rcases (dn_ab F ne c1 c2 m).mp hq with ⟨a, z⟩ | ⟨a, z⟩
      · have := F.nn (s := p.y) (t := q.y) (by rw [← en, a]); rw [F.zero] at z; omega
      · have := F.nn (s := p.y) (t := q.x) (by rw [en, a]); rw [F.zero] at z; omega
    · exact ne c2.symm
theorem FM.snoc (F : FM ps g d) (ne : g p.x ≠ g p.y) (hl : 1 ≤ p.l) : FM (ps ++ [p]) (g1 g p) (d1 g d p) where
  len := fun q m => (List.mem_append.mp m).elim (F.len q) fun z => by rw [List.mem_singleton.mp z]; exact hl
  zero := fun s => by rw [d1_same rfl]; exact F.zero s
  sym := fun s t => by
    show d1 g d p s t = d1 g d p t s
    by_cases h : g s = g t
    · rw [d1_same h, d1_same h.symm]; exact F.sym s t
    · by_cases h1 : g s = g p.x ∧ g t = g p.y
      · rw [d1_ab ne h1.1 h1.2, d1_ba ne h1.2 h1.1, F.sym s p.x, F.sym t p.y]; omega
      · by_cases h2 : g s = g p.y ∧ g t = g p.x
        · rw [d1_ba ne h2.1 h2.2, d1_ab ne h2.2 h2.1, F.sym s p.y, F.sym t p.x]; omega
        · unfold d1
          rw [if_neg h, if_neg h1, if_neg h2, if_neg (fun z : g t = g s => h z.symm), if_neg (fun z : g t = g p.x ∧ g s = g p.y => h2 ⟨z.2, z.1⟩), if_neg (fun z : g t = g p.y ∧ g s = g p.x => h1 ⟨z.2, z.1⟩)]
  pos := fun s t h n => by
    rcases g1_cases h with c | ⟨c1, c2⟩ | ⟨c1, c2⟩
    · rw [d1_same c]; exact F.pos s t c n
    · rw [d1_ab ne c1 c2]; have := F.nn c1; have := F.nn (s := p.y) (t := t) c2.symm; omega
    · rw [d1_ba ne c1 c2]; have := F.nn c1; have := F.nn (s := p.x) (t := t) c2.symm; omega
  ends := fun q m => by
    rcases List.mem_append.mp m with m | m
    · unfold g1; rw [F.ends q m]
    · rw [List.mem_singleton.mp m]; unfold g1; rw [if_pos rfl, if_neg ne]
  step := fun q m s h => by
    rcases List.mem_append.mp m with m | m
    · have en := F.ends q m
      rcases g1_cases h with c | ⟨c1, c2⟩ | ⟨c1, c2⟩
      · rw [d1_same c, d1_same (c.trans en)]; exact F.step q m s c
      · rw [d1_ab ne c1 c2, d1_ab ne c1 (en.symm.trans c2)]; have := F.step q m p.y c2.symm; omega
      · rw [d1_ba ne c1 c2, d1_ba ne c1 (en.symm.trans c2)]; have := F.step q m p.x c2.symm; omega
    · rw [List.mem_singleton.mp m] at h ⊢
      rcases g1_cases h with c | ⟨c1, c2⟩ | ⟨c1, c2⟩
      · rw [d1_same c, d1_ab ne c rfl, F.zero]; omega
      · exact absurd c2 ne
      · rw [d1_ba ne c1 rfl, d1_same c1, F.zero]; omega
  par := fun s t h n => by
    rcases g1_cases h with c | ⟨c1, c2⟩ | ⟨c1, c2⟩
    · obtain ⟨i, q, e, z⟩ := F.par s t c n
      exact ⟨i, q, snoc_get e, (dn_same F c e (List.mem_of_getElem? e)).mpr z⟩
    · by_cases e : p.y = t
      · subst e
        exact ⟨ps.length, p, snoc_last, .inr ⟨rfl, by rw [d1_same c1, d1_ab ne c1 rfl, F.zero]; omega⟩⟩
      · obtain ⟨i, q, e, z⟩ := F.par p.y t c2.symm e
        exact ⟨i, q, snoc_get e, (dn_ab F ne c1 c2 (List.mem_of_getElem? e)).mpr z⟩
    · by_cases e : p.x = t
      · subst e
        exact ⟨ps.length, p, snoc_last, .inl ⟨rfl, by rw [d1_same c1, d1_ba ne c1 rfl, F.zero]; omega⟩⟩
      · obtain ⟨i, q, e, z⟩ := F.par p.x t c2.symm e
        exact ⟨i, q, snoc_get e, (dn_ba F ne c1 c2 (List.mem_of_getElem? e)).mpr z⟩
  uni := fun s t i j h ⟨q1, e1, z1⟩ ⟨q2, e2, z2⟩ => by
    rcases get_snoc e1 with ⟨f1, m1⟩ | ⟨f1, rfl⟩ <;> rcases get_snoc e2 with ⟨f2, m2⟩ | ⟨f2, k2⟩
    · rcases g1_cases h with c | ⟨c1, c2⟩ | ⟨c1, c2⟩
      · exact F.uni s t i j c ⟨q1, f1, (dn_same F c f1 m1).mp z1⟩ ⟨q2, f2, (dn_same F c f2 m2).mp z2⟩
      · exact F.uni p.y t i j c2.symm ⟨q1, f1, (dn_ab F ne c1 c2 m1).mp z1⟩ ⟨q2, f2, (dn_ab F ne c1 c2 m2).mp z2⟩
      · exact F.uni p.x t i j c2.symm ⟨q1, f1, (dn_ba F ne c1 c2 m1).mp z1⟩ ⟨q2, f2, (dn_ba F ne c1 c2 m2).mp z2⟩
    · subst k2; exact (dn_new_old F ne hl h m1 z2 z1).elim
    · exact (dn_new_old F ne hl h m2 z1 z2).elim
    · rw [f1, f2]
  side := fun i j q1 q2 nij e1 e2 h => by
    rcases get_snoc e1 with ⟨f1, m1⟩ | ⟨f1, k1⟩ <;> rcases get_snoc e2 with ⟨f2, m2⟩ | ⟨f2, k2⟩
    · have n1 := F.ends q1 m1
      have n2 := F.ends q2 m2
      rcases g1_cases h with c | ⟨c1, c2⟩ | ⟨c1, c2⟩
      · rw [d1_same c, d1_same (n1.symm.trans c), d1_same (c.trans n2), d1_same (n1.symm.trans (c.trans n2))]
        exact F.side i j q1 q2 nij f1 f2 c
      · rw [d1_ab ne c1 c2, d1_ab ne (n1.symm.trans c1) c2, d1_ab ne c1 (n2.symm.trans c2), d1_ab ne (n1.symm.trans c1) (n2.symm.trans c2)]; omega
      · rw [d1_ba ne c1 c2, d1_ba ne (n1.symm.trans c1) c2, d1_ba ne c1 (n2.symm.trans c2), d1_ba ne (n1.symm.trans c1) (n2.symm.trans c2)]; omega
    · subst k2
      have n1 := F.ends q1 m1
      rcases g1_cases h with c | ⟨c1, c2⟩ | ⟨c1, c2⟩
      · rw [d1_same c, d1_same (n1.symm.trans c), d1_ab ne c rfl, d1_ab ne (n1.symm.trans c) rfl]; omega
      · exact absurd c2 ne
      · rw [d1_ba ne c1 rfl, d1_ba ne (n1.symm.trans c1) rfl, d1_same c1, d1_same (n1.symm.trans c1), F.zero]; omega
    · subst k1
      have n2 := F.ends q2 m2
      rcases g1_cases h with c | ⟨c1, c2⟩ | ⟨c1, c2⟩
      · rw [d1_same c, d1_same (c.trans n2), d1_ba ne rfl c.symm, d1_ba ne rfl (n2.symm.trans c.symm), F.zero]; omega
      · rw [d1_ab ne rfl c2, d1_ab ne rfl (n2.symm.trans c2), d1_same c2.symm, d1_same (c2.symm.trans n2), F.zero]; omega
      · exact absurd c1 ne
    · exact absurd (f1.trans f2.symm) nij
end
/-! all pipes of a house, one behind another -/
theorem FM.all {n : Int} (n0 : 0 ≤ n) : ∀ (qs ps : List Pi) (gl : List Int) (g : Int → Int) (d : Int → Int → Int), FM ps g d → gl.length = n.toNat → (∀ r, 0 ≤ r → r < n → g r = grp gl r.toNat) →
    (∀ p ∈ qs, 0 ≤ p.x ∧ p.x < n ∧ 0 ≤ p.y ∧ p.y < n ∧ 1 ≤ p.l) → joins gl (edges qs) = true → ∃ g' d', FM (ps ++ qs) g' d'
  | [], ps, gl, g, d, F, _, _, _, _ => ⟨g, d, by rw [List.append_nil]; exact F⟩
  | p :: qs, ps, gl, g, d, F, hl, hg, ok, hj => by
    obtain ⟨a1, a2, a3, a4, a5⟩ := ok p List.mem_cons_self
    have hj' : (if grp gl p.x.toNat = grp gl p.y.toNat then false else joins (Rw.step gl (p.x.toNat, p.y.toNat)) (edges qs)) = true := hj
    split at hj'
    · cases hj'
    · rename_i ne
      have ne' : g p.x ≠ g p.y := by rw [hg _ a1 a2, hg _ a3 a4]; exact ne
      obtain ⟨g', d', F'⟩ := FM.all n0 qs (ps ++ [p]) (Rw.step gl (p.x.toNat, p.y.toNat)) (g1 g p) (d1 g d p) (F.snoc ne' a5) (by unfold Rw.step; rw [merge_len]; exact hl) (fun r r0 r1 => by
        unfold Rw.step g1
        rw [merge_grp (by omega), hg _ r0 r1, hg _ a1 a2, hg _ a3 a4]) (fun q m => ok q (List.mem_cons_of_mem _ m)) hj'
      exact ⟨g', d', by rw [List.append_assoc] at F'; exact F'⟩
/-! ### the rooms' distances of a house -/
structure Tm (n : Int) (ps : List Pi) (d : Int → Int → Int) : Prop where
  ok : ∀ p ∈ ps, 0 ≤ p.x ∧ p.x < n ∧ 0 ≤ p.y ∧ p.y < n ∧ 1 ≤ p.l
  zero : ∀ s, d s s = 0
  sym : ∀ s t, d s t = d t s
  pos : ∀ s t, 0 ≤ s → s < n → 0 ≤ t → t < n → s ≠ t → 0 < d s t
  step : ∀ p ∈ ps, ∀ s, 0 ≤ s → s < n → d s p.x = d s p.y + p.l ∨ d s p.y = d s p.x + p.l
  par : ∀ s t, 0 ≤ s → s < n → 0 ≤ t → t < n → s ≠ t → ∃ i, Dn ps d s t i
  uni : ∀ s t i j, 0 ≤ s → s < n → 0 ≤ t → t < n → Dn ps d s t i → Dn ps d s t j → i = j
  side : ∀ (i j : Nat) (p q : Pi), i ≠ j → ps[i]? = some p → ps[j]? = some q → d p.x q.x - d p.y q.x = d p.x q.y - d p.y q.y
theorem tree {n : Int} {ps : List Pi} (n0 : 1 ≤ n) (ln : (ps.length : Int) = n - 1) (ok : ∀ p ∈ ps, 0 ≤ p.x ∧ p.x < n ∧ 0 ≤ p.y ∧ p.y < n ∧ 1 ≤ p.l) (con : Con n.toNat (edges ps)) : ∃ d, Tm n ps d := by
  have hE : ∀ e ∈ edges ps, e.1 < n.toNat ∧ e.2 < n.toNat := by
    intro e he
    obtain ⟨p, m, rfl⟩ := List.mem_map.mp he
    obtain ⟨a1, a2, a3, a4, _⟩ := ok p m
    exact ⟨by show p.x.toNat < n.toNat; omega, by show p.y.toNat < n.toNat; omega⟩
  have hj := (joins_iff (by omega) hE (by unfold edges; rw [List.length_map]; omega)).mpr con
  obtain ⟨g, d, F⟩ := FM.all (n := n) (by omega) ps [] (start n.toNat) id _ FM.empty (by unfold start; rw [List.length_map, List.length_range]) (fun r r0 r1 => by
    unfold grp start
    rw [List.getD_eq_getElem?_getD, List.getElem?_map, List.getElem?_range (by omega)]
    show r = ((r.toNat : Nat) : Int)
    omega) ok hj
  rw [List.nil_append] at F
  have all : ∀ r, 0 ≤ r → r < n → g r = g 0 := by
    intro r r0 r1
    have := con (fun a => decide (g (a : Int) = g 0)) (fun e he => by
      obtain ⟨p, m, rfl⟩ := List.mem_map.mp he
      obtain ⟨a1, a2, a3, a4, _⟩ := ok p m
      show decide (g ((p.x.toNat : Nat) : Int) = g 0) = decide (g ((p.y.toNat : Nat) : Int) = g 0)
      rw [show ((p.x.toNat : Nat) : Int) = p.x by omega, show ((p.y.toNat : Nat) : Int) = p.y by omega, F.ends p m]) r.toNat (by omega)
    have h2 : decide (g ((r.toNat : Nat) : Int) = g 0) = decide (g ((0 : Nat) : Int) = g 0) := this
    rw [show ((r.toNat : Nat) : Int) = r by omega, show ((0 : Nat) : Int) = 0 from rfl, decide_eq_true (rfl : g 0 = g 0)] at h2
    exact of_decide_eq_true h2
  have two : ∀ s t, 0 ≤ s → s < n → 0 ≤ t → t < n → g s = g t := fun s t a b c e => (all s a b).trans (all t c e).symm
  have inx : ∀ p ∈ ps, g p.x = g 0 := fun p m => all _ (ok p m).1 (ok p m).2.1
  exact ⟨d, ok, F.zero, F.sym, fun s t a b c e => F.pos s t (two s t a b c e), fun p m s a b => F.step p m s ((all s a b).trans (inx p m).symm), fun s t a b c e => F.par s t (two s t a b c e), fun s t i j a b c e => F.uni s t i j (two s t a b c e),
    fun i j p q nij e1 e2 => F.side i j p q nij e1 e2 ((inx p (List.mem_of_getElem? e1)).trans (inx q (List.mem_of_getElem? e2)).symm)⟩
theorem Tm.nn {n : Int} {ps : List Pi} {d : Int → Int → Int} (T : Tm n ps d) {s t : Int} (a : 0 ≤ s) (b : s < n) (c : 0 ≤ t) (e : t < n) : 0 ≤ d s t := by
  by_cases h : s = t
  · subst h; rw [T.zero]; exact Int.le_refl 0
  · have := T.pos s t a b c e h; omega
end Rw

namespace Rw
open PySem PySem.Spec PyProof.Rows L2
def Pi.dat (p : Pi) : PyData := pipeD p.x p.y p.l p.na p.fl
structure Pi.ok (n : Int) (p : Pi) : Prop where
  x0 : 0 ≤ p.x
  x1 : p.x ≤ n - 1
  y0 : 0 ≤ p.y
  y1 : p.y ≤ n - 1
  xy : p.x < p.y
  fit : Fit p.l p.na p.fl
theorem ins_perm {α : Type} (xs : List α) (k : Nat) (y : α) : (xs.take k ++ [y] ++ xs.drop k).Perm (y :: xs) := by
  rw [List.append_assoc]
  refine List.perm_middle.trans ?_
  show (y :: (xs.take k ++ xs.drop k)).Perm (y :: xs)
  rw [List.take_append_drop]
theorem ins_sum {α : Type} (f : α → Nat) (xs : List α) (k : Nat) (y : α) : ((xs.take k ++ [y] ++ xs.drop k).map f).sum = f y + (xs.map f).sum := by
  have e : (xs.map f).sum = ((xs.take k).map f).sum + ((xs.drop k).map f).sum := by
    rw [← List.sum_append, ← List.map_append, List.take_append_drop]
  rw [List.map_append, List.map_append, List.sum_append, List.sum_append, e]
  simp only [List.map_cons, List.map_nil, List.sum_cons, List.sum_nil]
  omega
theorem start_succ (i : Nat) : (start (i + 1)).Perm ((i : Int) :: start i) := by
  unfold start
  rw [List.range_succ, List.map_append]
  exact List.perm_append_comm
theorem start_mem {n : Nat} {v : Int} : v ∈ start n ↔ 0 ≤ v ∧ v < n := by
  unfold start
  rw [List.mem_map]
  constructor
  · rintro ⟨a, ha, rfl⟩
    have := List.mem_range.mp ha
    exact ⟨Int.natCast_nonneg a, Int.ofNat_lt.mpr this⟩
  · rintro ⟨h0, h1⟩
    exact ⟨v.toNat, List.mem_range.mpr (by omega), by show ((v.toNat : Nat) : Int) = v; omega⟩
theorem start_nodup (n : Nat) : (start n).Nodup := by
  unfold start
  exact List.Pairwise.map _ (fun a b h q => h (Int.ofNat.inj q)) List.nodup_range
theorem perm2 {a b : Int} {ns : List Int} (h : ns.Perm [a, b]) : ns = [a, b] ∨ ns = [b, a] := by
  have hl : ns.length = 2 := h.length_eq
  match ns, hl with
  | [u, v], _ =>
    have hu : u = a ∨ u = b := by simpa using h.mem_iff.mp (List.mem_cons_self (a := u) (l := [v]))
    rcases hu with rfl | rfl
    · have := (List.perm_cons u).mp h
      have e := List.perm_singleton.mp this
      left; rw [e]
    · have h2 : [u, v].Perm [u, a] := h.trans (List.Perm.swap u a [])
      have := (List.perm_cons u).mp h2
      have e := List.perm_singleton.mp this
      right; rw [e]
section
variable {P : Program} {w : World} {K : PySem.W.Frag} {mg : Str → Option Value} {base : Heap}
abbrev sHouse : Stmt := topS 53
abbrev nHouse : List Str := ["_law_deck_here", "_law_most", "_law_far", "_law_flaps", "_law_rooms", "_law_names", "_law_room", "_law_pipes", "_law_left", "_law_k", "_law_pair", "_law_new"]
theorem scHouse : FnScope nHouse ["_law_deck_here", "_law_most", "_law_far", "_law_flaps"] (defScope sHouse) := ⟨rfl, rfl, rfl, by decide +kernel, rfl, by decide +kernel, by decide +kernel⟩
def spHouse : Sp := fun vs H Q _ => ∃ (D C R : Addr) (b most far flaps : Int) (av : List Addr), vs = [.ref D, .int most, .int far, .int flaps] ∧ 1 ≤ most ∧ most ≤ 16 ∧ (far = 0 ∨ far = 1) ∧ 0 ≤ flaps ∧ flaps ≤ 1 ∧
  Deck H D C R b ∧ b ≤ 600000000 ∧ Tr av H ∧ D ∈ av ∧ R ∈ av ∧
  ∀ H' (p : Addr) (n : Int) (ps : List Pi), Keep [D, R] H H' → Deck H' D C R (b + 2000) → 1 ≤ n → n ≤ 16 → (ps.length : Int) = n - 1 → (∀ p ∈ ps, p.ok n ∧ (far = 0 → p.l ≤ 4)) → Con n.toNat (edges ps) → (ps.map fun p => p.na.length).sum ≤ 12 → (ps.map fun p => p.fl.length).sum ≤ 6 → Dt av H' (.ref p) (houseD n (ps.map Pi.dat)) → Tr av H' → Q (.ref p) H'
theorem ok_house (h : Has K mg "_law_house" sHouse) (B : Blt mg) (CN : Can P w K mg base "_law_next" ["_law_deck_here", "_law_many"] 1 spNext)
    (CP : Can P w K mg base "_law_pipe" ["_law_deck_here", "_law_one_here", "_law_other", "_law_left", "_law_far"] 5 spPipe) : Can P w K mg base "_law_house" ["_law_deck_here", "_law_most", "_law_far", "_law_flaps"] 6 spHouse := by
  obtain ⟨f, fd, F, g⟩ := h
  refine ⟨f, fd, F.ok (k := 5) scHouse (fun vs H Q E h => ?_) (fun cdv A outer s H vs Q E hr h => ?_), g, F.kp, F.binds fun _ _ _ _ _ _ us hl => match us, hl with | [_, _, _, _], _ => rfl⟩
  · obtain ⟨D, C, R, b, most, far, flaps, av, rfl, _⟩ := h
    rfl
  · obtain ⟨D, C, R, b, most, far, flaps, av, rfl, m1, m2, hf, f0, f1, dk, hb, tr, mD, mR, q⟩ := h
    refine ⟨_, pss_cons (ps_set (i := 4) scHouse.nd rfl (.inl rfl) (pe_op op_add pe_int (pe_can CN (hr.mono (by decide)) (by rfl) (pa_cons (pv 0) (pa_cons (pv 1) pa_nil)))))
      (pss_cons (ps_set (i := 5) scHouse.nd rfl (.inl rfl) (pe_lst pa_nil))
      (pss_cons (ps_for PassesOwn.never rfl (pi_range1 (by rfl) B.range_ (pa_cons (pv 4) pa_nil)) (pg_name (i := 6) scHouse.nd rfl (Or.inl rfl))
        (pss_one (ps_expr (pe_bm PySem.F.plainAttrs_list PySem.F.slot_list_insert PySem.F.type_list_insert mt_insert (pv 5) (pa_cons (pe_can CN (hr.mono (by decide)) (by rfl) (pa_cons (pv 0) (pa_cons (pe_op op_add (pv 6) pe_int) pa_nil))) (pa_cons (pv 6) pa_nil))))))
      (pss_cons (ps_set (i := 7) scHouse.nd rfl (.inl rfl) (pe_lst pa_nil))
      (pss_cons (ps_set (i := 8) scHouse.nd rfl (.inl rfl) (pe_lst (pa_cons pe_int (pa_cons (pe_op op_mul pe_int (pv 3)) pa_nil))))
      (pss_cons (ps_for PassesOwn.never rfl (pi_range2 (by rfl) B.range_ (pa_cons pe_int (pa_cons (pv 4) pa_nil))) (pg_name (i := 9) scHouse.nd rfl (Or.inl rfl))
        (pss_cons (ps_set (i := 10) scHouse.nd rfl (.inl rfl) (pe_callB cr_sorted (by rfl) B.sorted_ boot_sorted (pa_cons (pe_lst (pa_cons (pe_ix ix_list (pv 5) (pe_can CN (hr.mono (by decide)) (by rfl) (pa_cons (pv 0) (pa_cons (pv 9) pa_nil))) (fun _ _ => rfl)) (pa_cons (pe_ix ix_list (pv 5) (pv 9) (fun _ _ => rfl)) pa_nil))) pa_nil)))
        (pss_cons (ps_set (i := 11) scHouse.nd rfl (.inl rfl) (pe_can CP hr (by rfl) (pa_cons (pv 0) (pa_cons (pe_ix ix_list (pv 10) pe_int (fun _ _ => rfl)) (pa_cons (pe_ix ix_list (pv 10) pe_int (fun _ _ => rfl)) (pa_cons (pv 8) (pa_cons (pv 2) pa_nil)))))))
        (pss_one (ps_expr (pe_bm PySem.F.plainAttrs_list PySem.F.slot_list_insert PySem.F.type_list_insert mt_insert (pv 7) (pa_cons (pe_can CN (hr.mono (by decide)) (by rfl) (pa_cons (pv 0) (pa_cons (pv 9) pa_nil))) (pa_cons (pv 11) pa_nil))))))))
      (pss_one (ps_ret (pe_tup (pa_cons (pv 4) (pa_cons (pe_callTy call_tuple_of (by rfl) B.tuple_ boot_tuple (pa_cons (pv 7) pa_nil)) pa_nil)))))))))), ?_⟩
    refine ⟨.ref D, rfl, .int most, rfl, D, C, R, b, most, rfl, m1, by omega, dk, by omega, fun H1 k1 kp1 dk1 a1 a2 => ?_⟩
    refine ⟨1, k1, rfl, rfl, ?_⟩
    have hn1 : 1 ≤ 1 + k1 := by omega
    have hn2 : 1 + k1 ≤ 16 := by omega
    dsimp only
    generalize 1 + k1 = n at hn1 hn2
    refine ⟨show 0 ≤ sizeLine by decide, fun Nn nN => ?_⟩
    have zN := dk1.ne nN
    refine ⟨.int n, rfl, n, rfl, by omega, by omega, for_range (lo := 0) (n := n.toNat)
      (fun i σ G => ∃ s6, σ = [some (.ref D), some (.int most), some (.int far), some (.int flaps), some (.int n), some (.ref Nn), s6, none, none, none, none, none] ∧ Keep [D, R] H1 G ∧ Deck G D C R (b + 1 + i) ∧ ∃ ms : List Int, ms.Perm (start i) ∧ G Nn = some (.lst (ms.map V.int)))
      ⟨none, rfl, Keep.new nN, (dk1.new nN).mono (by omega), [], List.Perm.refl _, upd_same⟩ (fun i σ G hi p => ?_) (fun σ G p => ?_)⟩
    · obtain ⟨s6, rfl, k2, d2, ms, pm, e2⟩ := p
      have l2 : ms.length = i := by rw [pm.length_eq]; unfold start; rw [List.length_map, List.length_range]
      refine ⟨.ref Nn, rfl, .inl ⟨rfl, _, SqL.of e2⟩, .ref D, rfl, .int (0 + (i : Int)), rfl, _, 1, rfl, rfl, D, C, R, _, _, rfl, by omega, by omega, d2, by omega, fun G2 k kp d3 b1 b2 => ?_⟩
      have e3 := kp Nn _ e2 (notDR zN.1 zN.2.2)
      refine ⟨.int (0 + (i : Int)), rfl, Nn, ms.map V.int, k, .int (0 + (i : Int)), rfl, rfl, e3, by rw [List.length_map, l2]; exact small1000 (by omega), b1, by omega, ?_⟩
      refine ⟨some (.int (0 + (i : Int))), rfl, (k2.trans kp).upd nN, (d3.other zN.1 zN.2.1 zN.2.2).mono (by omega), ms.take k.toNat ++ [0 + (i : Int)] ++ ms.drop k.toNat, ?_, ?_⟩
      · refine (ins_perm ms k.toNat _).trans ?_
        rw [Int.zero_add]
        exact (List.Perm.cons _ pm).trans (start_succ i).symm
      · rw [upd_same, List.map_append, List.map_append, List.map_take, List.map_drop]; rfl
    · obtain ⟨s6, rfl, k2, d2, ms, pm0, e2⟩ := p
      have l2 : ms.length = n.toNat := by rw [pm0.length_eq]; unfold start; rw [List.length_map, List.length_range]
      have c2 : ∀ v ∈ ms, 0 ≤ v ∧ v < n := fun v hv => by have := start_mem.mp (pm0.mem_iff.mp hv); omega
      have nd2 : ms.Nodup := pm0.nodup_iff.mpr (start_nodup _)
      refine ⟨show 0 ≤ sizeLine by decide, fun Pp nP => ?_⟩
      have zP := d2.ne nP
      refine ⟨.int flaps, rfl, 6, flaps, rfl, rfl, .inl ⟨by decide, by decide⟩, show 2 ≤ sizeLine by decide, fun L nL => ?_⟩
      have d3 := d2.new (o := .lst []) nP
      have zL := d3.ne nL
      have d4 : Deck (upd (upd G Pp (.lst [])) L (.lst [.int 12, .int (6 * flaps)])) D C R (b + 1 + 16) := (d3.new nL).mono (by omega)
      have nPN : Pp ≠ Nn := (ne_of_none e2 nP).symm
      have e3 : (upd G Pp (.lst [])) Nn = some (.lst (ms.map V.int)) := by rw [upd_ne nPN.symm]; exact e2
      have nLN : L ≠ Nn := (ne_of_none e3 nL).symm
      have nLP : L ≠ Pp := (ne_of_none (upd_same (H := G) (a := Pp) (o := .lst [])) nL).symm
      have k3 : Keep [D, R] H (upd (upd G Pp (.lst [])) L (.lst [.int 12, .int (6 * flaps)])) := kp1.trans (k2.trans ((Keep.new nP).trans (Keep.new nL)))
      have eL3 : (upd (upd G Pp (.lst [])) L (.lst [.int 12, .int (6 * flaps)])) L = some (.lst [.int 12, .int (6 * flaps)]) := upd_same
      have eP3 : (upd (upd G Pp (.lst [])) L (.lst [.int 12, .int (6 * flaps)])) Pp = some (.lst []) := by rw [upd_ne nLP.symm]; exact upd_same
      have eN3 : (upd (upd G Pp (.lst [])) L (.lst [.int 12, .int (6 * flaps)])) Nn = some (.lst (ms.map V.int)) := by rw [upd_ne nLN.symm]; exact e3
      have tr3 : Tr (L :: Nn :: Pp :: av) (upd (upd G Pp (.lst [])) L (.lst [.int 12, .int (6 * flaps)])) := (((tr.keep k3 d4).cons eP3).cons eN3).cons eL3
      have fN : H Nn = none := kp1.free dk1 nN
      have fP : H Pp = none := (kp1.trans k2).free d2 nP
      have fL : H L = none := by
        have z : Keep [D, R] H (upd G Pp (.lst [])) := kp1.trans (k2.trans (Keep.new nP))
        exact z.free d3 nL
      have t6 : (6 * flaps : Int) ≤ 100 := by omega
      have t7 : (0 : Int) ≤ 6 * flaps := by omega
      have t9 : 6 * flaps ≤ 6 := by omega
      dsimp only
      generalize hG0 : upd (upd G Pp (.lst [])) L (.lst [.int 12, .int (6 * flaps)]) = G0 at *
      generalize 6 * flaps = fm at *
      refine ⟨.int n, rfl, 1, n, rfl, ⟨by decide, by decide, by omega, by omega⟩, for_range (lo := 1) (n := (n - 1).toNat)
        (fun i σ J => ∃ s9 s10 s11, σ = [some (.ref D), some (.int most), some (.int far), some (.int flaps), some (.int n), some (.ref Nn), s6, some (.ref Pp), some (.ref L), s9, s10, s11] ∧
          Keep [D, R] H J ∧ Deck J D C R (b + 17 + 62 * i) ∧ J Nn = some (.lst (ms.map V.int)) ∧ Tr (L :: Nn :: Pp :: av) J ∧ ∃ (ps : List Pi) (us : List V), (∃ l0 l1 : Int, J L = some (.lst [.int l0, .int l1]) ∧ 0 ≤ l0 ∧ 0 ≤ l1 ∧ l0 + ((ps.map fun p => p.na.length).sum : Nat) = 12 ∧ l1 + ((ps.map fun p => p.fl.length).sum : Nat) = fm) ∧ (∀ S : Nat → Bool, (∀ p ∈ ps, S p.x.toNat = S p.y.toNat) → ∀ j : Nat, j ≤ i → S (grp ms j).toNat = S (grp ms 0).toNat) ∧ ps.length = i ∧ (∀ p ∈ ps, p.ok n ∧ (far = 0 → p.l ≤ 4)) ∧ J Pp = some (.lst us) ∧ Dts (L :: Nn :: Pp :: av) J us (ps.map Pi.dat))
        ⟨none, none, none, rfl, k3, d4.mono (by omega), eN3, tr3, [], [], ⟨12, fm, eL3, by decide, t7, by decide, by show fm + 0 = fm; omega⟩, fun S _ j hj => by rw [show j = 0 by omega], rfl, fun _ z => absurd z List.not_mem_nil, eP3, .nil⟩ (fun i σ J hi p => ?_) (fun σ J p => ?_)⟩
      · obtain ⟨s9, s10, s11, rfl, k4, d4, eN, tr4, ps, us, ⟨l0, l1, eL, p0, p1, p2, p3⟩, hcon, lps, okp, eP, dts⟩ := p
        have msl : ms.length = n.toNat := l2
        refine ⟨.ref Nn, rfl, .ref D, rfl, .int (1 + (i : Int)), rfl, D, C, R, _, _, rfl, by omega, by omega, d4, by omega, fun J2 k kp d5 b1 b2 => ?_⟩
        have eN2 := kp Nn _ eN (notDR zN.1 zN.2.2)
        have q1 : (ms.map V.int)[k.toNat]? = some (.int (ms[k.toNat]'(by omega))) := by
          rw [List.getElem?_map, List.getElem?_eq_getElem (by omega)]; rfl
        have q2 : (ms.map V.int)[(1 + (i : Int)).toNat]? = some (.int (ms[(1 + (i : Int)).toNat]'(by omega))) := by
          rw [List.getElem?_map, List.getElem?_eq_getElem (by omega)]; rfl
        refine ⟨Nn, _, k, _, rfl, rfl, SqL.of eN2, atI_of b1 q1, .ref Nn, rfl, .int (1 + (i : Int)), rfl, Nn, _, _, _, rfl, rfl, SqL.of eN2, atI_of (by omega) q2, show 2 ≤ sizeLine by decide, fun a6 n6 => ?_⟩
        have cu := c2 _ (List.getElem_mem (l := ms) (n := k.toNat) (by omega))
        have cv := c2 _ (List.getElem_mem (l := ms) (n := (1 + (i : Int)).toNat) (by omega))
        have guv : grp ms k.toNat = ms[k.toNat]'(by omega) := by unfold grp; rw [List.getD_eq_getElem?_getD, List.getElem?_eq_getElem (by omega)]; rfl
        have gvv : grp ms (i + 1) = ms[(1 + (i : Int)).toNat]'(by omega) := by
          have ez : (1 + (i : Int)).toNat = i + 1 := by omega
          unfold grp; rw [List.getD_eq_getElem?_getD, ← ez, List.getElem?_eq_getElem (by omega)]; rfl
        have nuv : ms[k.toNat]'(by omega) ≠ ms[(1 + (i : Int)).toNat]'(by omega) := (List.pairwise_iff_getElem.mp nd2) k.toNat (1 + (i : Int)).toNat (by omega) (by omega) (by omega)
        have kle : k.toNat ≤ i := by omega
        generalize ms[k.toNat]'(by omega) = u at cu guv nuv
        generalize ms[(1 + (i : Int)).toNat]'(by omega) = v at cv gvv nuv
        refine ⟨a6, [u, v], rfl, SqL.of upd_same, show 2 < 64 by decide, fun ns a7 pm pw n7 => ?_⟩
        obtain ⟨x, y, rfl, hx, hy, hxy, hS⟩ : ∃ x y, ns = [x, y] ∧ (0 ≤ x ∧ x < n) ∧ (0 ≤ y ∧ y < n) ∧ x < y ∧ ∀ S : Nat → Bool, S x.toNat = S y.toNat → S u.toNat = S v.toNat := by
          rcases perm2 pm with e | e
          · have le : u ≤ v := by rw [e] at pw; simpa using pw
            exact ⟨u, v, e, cu, cv, by omega, fun S h => h⟩
          · have le : v ≤ u := by rw [e] at pw; simpa using pw
            exact ⟨v, u, e, cv, cu, by omega, fun S h => h.symm⟩
        have k5 : Keep [D, R] J (upd (upd J2 a6 (.lst [.int u, .int v])) a7 (.lst [.int x, .int y])) := kp.trans ((Keep.new n6).trans (Keep.new n7))
        have d6 : Deck (upd (upd J2 a6 (.lst [.int u, .int v])) a7 (.lst [.int x, .int y])) D C R (b + 17 + 62 * i + 1) := (d5.new n6).new n7
        have e7 : (upd (upd J2 a6 (.lst [.int u, .int v])) a7 (.lst [.int x, .int y])) a7 = some (.lst [.int x, .int y]) := upd_same
        show (_ : Prop)
        have hJ3 : upd (upd J2 a6 (.lst [.int u, .int v])) a7 (.lst ([x, y].map V.int)) = upd (upd J2 a6 (.lst [.int u, .int v])) a7 (.lst [.int x, .int y]) := rfl
        rw [hJ3]
        generalize upd (upd J2 a6 (.lst [.int u, .int v])) a7 (.lst [.int x, .int y]) = J3 at k5 d6 e7 ⊢
        have eL3 := k5 L _ eL (notDR zL.1 zL.2.2)
        have tr5 := tr4.keep k5 d6
        refine ⟨.ref D, rfl, .ref a7, rfl, a7, _, 0, .int x, rfl, rfl, SqL.of e7, atI_nat (j := 0) rfl, .ref a7, rfl, a7, _, 1, .int y, rfl, rfl, SqL.of e7, atI_nat (j := 1) rfl, .ref L, rfl, .int far, rfl,
          D, C, R, L, _, x, y, l0, l1, far, L :: Nn :: Pp :: av, rfl, eL3, p0, p1, by omega, by omega, zL.1, zL.2.1, zL.2.2, hf, d6, by omega, tr5, by simp [mD], by simp [mR], by simp, fun J4 pa l na fl k6 d7 eL4 g1 g2 fit hl4 dp tr6 => ?_⟩
        have sub : ∀ z ∈ [D, R, L], z ∈ L :: Nn :: Pp :: av := by
          intro z hz
          simp only [List.mem_cons, List.not_mem_nil, or_false] at hz ⊢
          rcases hz with hz | hz | hz
          · subst hz; simp [mD]
          · subst hz; simp [mR]
          · subst hz; simp
        have sub2 : ∀ z ∈ [D, R], z ∈ L :: Nn :: Pp :: av := by
          intro z hz
          exact sub z (by simp only [List.mem_cons, List.not_mem_nil, or_false] at hz ⊢; rcases hz with hz | hz <;> simp [hz])
        have dts3 := (dts.keep (k5.mono sub2)).keep (k6.mono sub)
        have not3 : ∀ {z : Addr}, z ≠ D → z ≠ R → z ≠ L → z ∉ [D, R, L] := fun {z} h1 h2 h3 m => by
          simp only [List.mem_cons, List.not_mem_nil, or_false] at m
          rcases m with m | m | m
          · exact h1 m
          · exact h2 m
          · exact h3 m
        have eP4 := k6 Pp _ (k5 Pp _ eP (notDR zP.1 zP.2.2)) (not3 zP.1 zP.2.2 nLP.symm)
        have eN4 := k6 Nn _ (k5 Nn _ eN (notDR zN.1 zN.2.2)) (not3 zN.1 zN.2.2 nLN.symm)
        refine ⟨.ref Pp, rfl, .inl ⟨rfl, _, SqL.of eP4⟩, .ref D, rfl, .int (1 + (i : Int)), rfl, D, C, R, _, _, rfl, by omega, by omega, d7, by omega, fun J5 k' kp' d8 b3 b4 => ?_⟩
        have eP5 := kp' Pp _ eP4 (notDR zP.1 zP.2.2)
        have ul : us.length = i := by rw [dts.len, List.length_map, lps]
        refine ⟨.ref pa, rfl, Pp, us, k', .ref pa, rfl, rfl, eP5, by rw [ul]; exact small1000 (by omega), b3, by omega, ?_⟩
        have k7 : Keep [D, R] J3 J5 → True := fun _ => trivial
        have dts5 := dts3.keep (kp'.mono sub2)
        have dp5 := dp.keep (kp'.mono sub2)
        have kH : Keep [D, R] H J5 := by
          intro z o ez nz
          have z1 := k5 z o (k4 z o ez nz) nz
          have zl : z ≠ L := ne_of_none ez fL
          have z2 := k6 z o z1 (by
            intro m
            simp only [List.mem_cons, List.not_mem_nil, or_false] at m nz
            rcases m with m | m | m
            · exact nz (.inl m)
            · exact nz (.inr m)
            · exact zl m)
          exact kp' z o z2 nz
        refine ⟨_, _, _, rfl, kH.upd fP, (d8.other zP.1 zP.2.1 zP.2.2).mono (by omega), ?_, (tr6.keep kp' d8).upd, ps.take k'.toNat ++ [⟨x, y, l, na, fl⟩] ++ ps.drop k'.toNat, us.take k'.toNat ++ [.ref pa] ++ us.drop k'.toNat, ⟨l0 - na.length, l1 - fl.length, ?_, by omega, by omega, by rw [ins_sum]; show l0 - (na.length : Int) + ((na.length + _ : Nat) : Int) = 12; omega, by rw [ins_sum]; show l1 - (fl.length : Int) + ((fl.length + _ : Nat) : Int) = fm; omega⟩, ?_, ?_, ?_, upd_same, ?_⟩
        · rw [upd_ne nPN.symm]; exact kp' Nn _ eN4 (notDR zN.1 zN.2.2)
        · rw [upd_ne nLP]; exact kp' L _ eL4 (notDR zL.1 zL.2.2)
        · intro S h j hj
          have ip := ins_perm ps k'.toNat (⟨x, y, l, na, fl⟩ : Pi)
          have h1 := hS S (h ⟨x, y, l, na, fl⟩ (ip.mem_iff.mpr List.mem_cons_self))
          have h2 := hcon S fun p m => h p (ip.mem_iff.mpr (List.mem_cons_of_mem _ m))
          by_cases hj' : j ≤ i
          · exact h2 j hj'
          · rw [show j = i + 1 by omega, gvv, ← h1, ← guv]
            exact h2 _ kle
        · rw [List.length_append, List.length_append, List.length_take, List.length_drop, List.length_singleton]; omega
        · intro z hz
          rcases List.mem_append.mp hz with hz | hz
          · rcases List.mem_append.mp hz with hz | hz
            · exact okp z (List.mem_of_mem_take hz)
            · rw [List.mem_singleton.mp hz]
              exact ⟨⟨hx.1, by show x ≤ n - 1; omega, hy.1, by show y ≤ n - 1; omega, hxy, fit⟩, hl4⟩
          · exact okp z (List.mem_of_mem_drop hz)
        · rw [List.map_append, List.map_append, List.map_take, List.map_drop]
          exact (((dts5.take _).app (.cons dp5 .nil)).app (dts5.drop _)).keep (Keep.put (by simp))
      · obtain ⟨s9, s10, s11, rfl, k4, d4, eN, tr4, ps, us, ⟨l0, l1, eL, p0, p1, p2, p3⟩, hcon, lps, okp, eP, dts⟩ := p
        refine ⟨.int n, rfl, .ref Pp, rfl, Pp, us, rfl, .inl ⟨SqL.of eP, fun T nT => ?_⟩⟩
        refine ⟨show 2 ≤ sizeLine by decide, fun p np => ?_⟩
        have tav : Tr av J := fun a m => tr4 a (by simp [m])
        have dT : Dt av (upd J T (.tup us)) (.ref T) (.tuple (ps.map Pi.dat)) := .tup (tav.not nT) upd_same ((dts.keep (Keep.new nT)).less fun a m => by simp [m])
        refine q _ p n ps (k4.trans ((Keep.new nT).trans (Keep.new np))) (((d4.new nT).new np).mono (by omega)) hn1 hn2 (by omega) okp ?_ (by omega) (by omega) ?_ (tav.upd).upd
        · intro S hE a ha
          have h2 := hcon S fun p m => hE (p.x.toNat, p.y.toNat) (List.mem_map.mpr ⟨p, m, rfl⟩)
          have at_ : ∀ c : Nat, c < n.toNat → S c = S (grp ms 0).toNat := fun c hc => by
            obtain ⟨j, hj, e⟩ := mem_grp (pm0.mem_iff.mpr (start_mem.mpr ⟨Int.natCast_nonneg c, by omega⟩ : (c : Int) ∈ start n.toNat))
            have z := h2 j (by omega)
            rw [e] at z
            exact z
          rw [at_ a ha, at_ 0 (by omega)]
        exact .tup ((tav.upd).not np) upd_same (.cons (.int n) (.cons (dT.keep (Keep.new np)) .nil))
end
end Rw

namespace Rw
open PySem PySem.Spec PyProof.Rows L2
/-! ### enumerate(t) of a tuple -/
theorem enumNew {v : Value} {o : Obj} {G : Heap → Prop} (B : Begins v o G) : Meets (Builtin.«enumerate.__new__» ⟨[.type "enumerate", v], []⟩) (fun _ R s => G s.heap ∧ R (.ok (.ret (.ref (s.heap.push o).objs.size)))
    { s with heap := (s.heap.push o).push { cls := .type "enumerate", data := .fields #[.none, .bool false, .ref s.heap.objs.size, rawInt 0, .none, .none] } }) :=
  .of_wp fun prog w A R s h => by
    obtain ⟨hp, g, d, tk, os⟩ := s
    obtain ⟨gh, rest⟩ := h
    have sub0 := sub_enumerate
    have it1 : ∀ {A' : Around} {E : Value → Shared → Prop} {Q : Value → Shared → Prop}, Q (.ref hp.objs.size) ⟨hp.push o, g, d, tk, os⟩ → wpAny (model prog w) A' (pyIter v) Q E ⟨hp, g, d, tk, os⟩ := fun q => B.iter prog w _ _ ⟨hp, g, d, tk, os⟩ _ gh q
    wp_walk using it1
    refine wpAny_stack_any (fun z => wpAny_pure ?_)
    split
    · rename_i cc _ _ _ _ _
      cases (cc == Value.type "enumerate") <;> (wp_walk using it1; exact ⟨_, rfl, rest⟩)
    · wp_walk using it1
      exact ⟨_, rfl, rest⟩
theorem enumCall {prog : Program} {w : World} {A : Around} {E : Value → Shared → Prop} {s : Shared} {v : Value} {o : Obj} {G : Heap → Prop} {Q : Value → Shared → Prop} (B : Begins v o G) (hg : G s.heap)
    (h : ∀ h', IsEnum h' (s.heap.objs.size + 1) s.heap.objs.size 0 .none → h'.get? s.heap.objs.size = some o → h'.objs.size = s.heap.objs.size + 2 → (∀ b o, s.heap.get? b = some o → h'.get? b = some o) → Q (.ref (s.heap.objs.size + 1)) { s with heap := h' }) :
    wpAny (model prog w) A (call (.type "enumerate") [v]) Q E s := by
  refine callType_new F.called_enumerate (by decide) (F.typeCall_enumerate_1 _) (F.newCall_enumerate_1 _) (fun obj => F.args_object_init_2 obj _) F.entry_enumerate_new (enumNew B) ⟨hg, ?_⟩
  have z : (s.heap.push o).objs.size = s.heap.objs.size + 1 := Heap.size_push ..
  show _ ∧ _
  rw [z]
  have e : IsEnum ((s.heap.push o).push { cls := .type "enumerate", data := .fields #[.none, .bool false, .ref s.heap.objs.size, rawInt 0, .none, .none] }) (s.heap.objs.size + 1) s.heap.objs.size 0 .none := by
    have y := Heap.get?_push_size (s.heap.push o) (o := { cls := .type "enumerate", data := .fields #[.none, .bool false, .ref s.heap.objs.size, rawInt 0, .none, .none] }) rfl
    rw [z] at y
    exact y
  exact ⟨⟨_, e, rfl⟩, h _ e (Heap.get?_push_of_some _ (Heap.get?_push_size _ B.free)) (by rw [Heap.size_push, z]) (fun b o x => Heap.get?_push_of_some _ (Heap.get?_push_of_some _ x))⟩
/-- the tuple at a, each item in a new pair -/
def IteT (K : PySem.W.Frag) (a : Addr) : It :=
  ⟨fun i H => ∃ (xs : List V) (x : V), SqT K H a xs ∧ xs[i]? = some x, fun i H v H' => ∃ T x, v = .ref T ∧ H T = none ∧ H' = upd H T (.tup [.int (i : Nat), x]) ∧ ∀ xs, SqT K H a xs → xs[i]? = some x, fun i H => ∃ xs : List V, SqT K H a xs ∧ xs.length ≤ i⟩
theorem turn_enumT {P : Program} {w : World} {K : PySem.W.Frag} {elts : List Expr} {kk : Nat} {tpos : Pos} (a e it : Addr) :
    Turn P w K (.Tuple elts kk tpos) (IteT K a) [e, it] e (fun i h => (∃ old, IsEnum h e it ((i : Nat) : Int) old) ∧ h.IsTupleIter it a i ∧ e ≠ it ∧ a ≠ it ∧ a ≠ e) where
  mem := by simp
  obj := fun i h st b hb => by
    obtain ⟨⟨old, he⟩, ⟨o, ho, oc, od⟩, _⟩ := st
    rcases (show b = e ∨ b = it by simpa using hb) with rfl | rfl
    · exact ⟨_, he, fun v q => nomatch q⟩
    · exact ⟨o, ho, fun v q => by rw [od] at q; cases q⟩
  keep := fun i h h' st k => let ⟨⟨old, he⟩, hi, r⟩ := st; ⟨⟨old, k e (by simp) _ he⟩, hi.at fun o q => k it (by simp) o q, r⟩
  item := by
    intro X hP hw hK hc i pins s σ H E I hf st hg
    subst hP hw hK
    obtain ⟨⟨old, he⟩, hit, nei, nai, nae⟩ := st
    obtain ⟨xs, x, sq, gx⟩ := hg
    obtain ⟨its, rv, tp, _⟩ := I.tuple sq
    obtain ⟨u, gu, ru⟩ := rv.get gx
    have eb : e < s.heap.objs.size := Heap.lt_size he
    have ib : it < s.heap.objs.size := by obtain ⟨_, q, _⟩ := hit; exact Heap.lt_size q
    have ub : i < its.toArray.size := by simpa using (List.getElem?_eq_some_iff.mp gu).1
    refine wpAny_pyNext_enum_itemD (Draws.tuple (A := X.A.in1) (I.ok.hd hc) it a nai its.toArray) he ⟨hit, tp⟩ ub nei (by simp [nei, nae.symm]) (fun y h' tk gy ho st' hT hsz hk => ?_)
    have ey : y = u := by
      have z : its[i]? = some y := by simpa using gy
      rw [gu] at z; cases z; rfl
    subst ey
    refine ⟨_, rfl, wpAny_letOwnedTupleGo_enum (s := { s with heap := h', toks := tk + 1 }) ho fun h2 he2 sb => ?_⟩
    have hT2 : h2.get? s.heap.objs.size = some { cls := .type "tuple", data := .seq #[.int i tk, y] } := (sb.2 _ (Nat.ne_of_gt eb)).trans hT
    have ob : ObjOk X.prog X.w (upd H s.heap.objs.size (.tup [.int (i : Nat), x])) h2 s.heap.objs.size (.tup [.int (i : Nat), x]) := ⟨by show 2 ≤ sizeLine; decide, [.int i tk, y], .cons ⟨_, rfl⟩ (.cons ru .nil), ⟨_, hT2, rfl, _, rfl⟩⟩
    have J : Inv X pins σ (upd H s.heap.objs.size (.tup [.int (i : Nat), x])) { s with heap := h2, toks := tk + 1 } :=
      I.turnedNew (ch := [e, it]) (fun b q hb z => (sb.2 b (fun w => hb (by simp [w]))).trans (hk b q (fun w => hb (by simp [w])) (fun w => hb (by simp [w])) z)) hf (Nat.le_refl _) ob
    refine ⟨.ref s.heap.objs.size, _, J, rfl, ⟨_, x, rfl, I.hok.fresh (Nat.le_refl _), rfl, fun ys hy => by rw [I.tuple_inj hy sq]; exact gx⟩, ⟨⟨y, ?_⟩, st'.1.at fun o q => (sb.2 it nei.symm).trans q, nei, nai, nae⟩, fun b hb => ?_⟩
    · rw [show ((i + 1 : Nat) : Int) = (i : Int) + 1 by omega]; exact he2
    · have b1 : b < s.heap.objs.size := by
        rcases (show b = e ∨ b = it by simpa using hb) with rfl | rfl
        · exact eb
        · exact ib
      rw [upd_ne (Nat.ne_of_lt b1)]
      exact (hf b hb).1
  done := by
    intro X hP hw hK hc i pins s σ H E I hf st hg
    subst hP hw hK
    obtain ⟨⟨old, he⟩, hit, nei, nai, nae⟩ := st
    obtain ⟨xs, sq, lx⟩ := hg
    obtain ⟨its, rv, tp, _⟩ := I.tuple sq
    obtain ⟨f0, f1, f2, f3, f4, f5⟩ := hf it (by simp)
    have ln := rv.length
    have D := Draws.tuple (prog := X.prog) (w := X.w) (A := X.A.in1) (I.ok.hd hc) it a nai its.toArray
    unfold pyNext
    refine wpAny_bind (wpAny_attempt (wpAny_callSpecial?_slot (name := Str.ofString "__next__") (s := s) (⟨_, he, rfl⟩ : s.TypeIs (.ref e) "enumerate") F.slot_enumerate_next (wpAny_call_entry F.slot_enumerate_next ⟨_, he, rfl⟩ F.entry_enumerate_next ?_ (F.args_enumerate_next_1 _))))
    show wpAny _ _ (field (.ref e) 2 >>= _) _ _ _
    refine wpAny_bind (wpAny_field he rfl (x := .ref it) rfl (wpAny_bind (wpAny_nextOf_tuple_end (I.ok.hd hc) hit tp (by simp; omega) fun h' x eb ⟨o, ho, oc⟩ => ?_)))
    refine wpAny_bind (wpAny_isInstance (T := "StopIteration") (b := true) ⟨o, ho, oc⟩ isSubtype_stop (wpAny_pure ⟨rfl, ?_⟩))
    exact I.turned (t' := s.toks) (fun b o hb q => eb b o hb q) f0 f1 f3 f4 f5
  self := fun A i s Q E st h => let ⟨⟨_, he⟩, _⟩ := st; wpAny_pyIter_enum he h
def iEnumT (K : PySem.W.Frag) (ta : TA) : TI := fun σ H R => ta σ H fun vs H1 => ∃ a xs, vs = [.ref a] ∧ SqT K H1 a xs ∧ R (IteT K a) H1
theorem pi_enumT {X : Cx} {e : Expr} {ta : TA} {p pos tpos : Pos} {elts : List Expr} {kk : Nat} (hg : Gl X "enumerate") (hm : X.mg "enumerate" = none) (ha : PA X [e] ta) (hs : starEach [e] X.env = [(false, eval e X.env)] := by rfl) :
    PI X (.Tuple elts kk tpos) (.Call (.Name "enumerate" p) [e] [] pos) (iEnumT X.K ta) := by
  refine ⟨fun pins s σ H R I h => Call_ (ld_blt I hg hm boot_enumerate (PyProof.Rows.callWith_type1 (thn (ha.run pos pins s σ H _ I h) fun us s1 ⟨vs, H1, I1, r1, q1⟩ => ?_) hs rfl))⟩
  obtain ⟨a, xs, rfl, sq, q⟩ := q1
  cases r1 with
  | cons r rr =>
    cases rr
    cases r
    obtain ⟨its, rv, tp, _⟩ := I1.tuple sq
    have al : a < s1.heap.objs.size := by obtain ⟨_, z, _⟩ := (id tp : Heap.IsTuple _ _ _); exact Heap.lt_size z
    refine enumCall (begins_tuple a its.toArray) tp (fun h' he hit hsz hk => wpAny_pyIter_enum he ?_)
    refine ⟨s1.heap.objs.size + 1, [s1.heap.objs.size + 1, s1.heap.objs.size], _, _, H1, rfl, I1.kept (t' := s1.toks) hk, turn_enumT a (s1.heap.objs.size + 1) s1.heap.objs.size, ⟨⟨.none, he⟩, ⟨_, hit, rfl, rfl⟩, Nat.succ_ne_self _, Nat.ne_of_lt al, Nat.ne_of_lt (Nat.lt_succ_of_lt al)⟩, fun b hb => ?_, q⟩
    have le : s1.heap.objs.size ≤ b := by
      rcases (show b = s1.heap.objs.size + 1 ∨ b = s1.heap.objs.size by simpa using hb) with z | z <;> rw [z]
      · exact Nat.le_add_right _ _
      · exact Nat.le_refl _
    exact I1.fpOk le (I1.hok.fresh le)
end Rw

namespace Rw
open PySem PySem.Spec PyProof.Rows L2
/-! ### min of a list of tuples of ints -/
def tupI (ns : List Int) : PyData := .tuple (ns.map .int)
def minL (ns : List Int) (nss : List (List Int)) : List Int := nss.foldl (fun a y => if PySem.W.listLt y a = true then y else a) ns
theorem tupI_toD (ns : List Int) : tupI ns = PySem.W.Datum.toD (⟨ns⟩ : PySem.W.Tup Int) := by
  show PyData.tuple (ns.map .int) = PyData.tuple (ns.map PySem.W.Datum.toD)
  rfl
theorem minL_fold (ns : List Int) : ∀ nss : List (List Int), (nss.map fun x => (⟨x⟩ : PySem.W.Tup Int)).foldl (fun a y => if PySem.W.listLt y.items a.items = true then y else a) ⟨ns⟩ = (⟨minL ns nss⟩ : PySem.W.Tup Int) := by
  intro nss
  unfold minL
  induction nss generalizing ns with
  | nil => rfl
  | cons y r ih =>
    rw [List.map_cons, List.foldl_cons, List.foldl_cons]
    by_cases h : PySem.W.listLt y ns = true
    · rw [if_pos h, if_pos h]; exact ih y
    · rw [if_neg h, if_neg h]; exact ih ns
theorem minD_minL (ns : List Int) (nss : List (List Int)) : PySem.W.minD (tupI ns) (nss.map tupI) = tupI (minL ns nss) := by
  have e : nss.map tupI = (nss.map fun x => (⟨x⟩ : PySem.W.Tup Int)).map PySem.W.Datum.toD := by
    rw [List.map_map]; exact List.map_congr_left fun x _ => tupI_toD x
  rw [tupI_toD, e, PySem.W.minD_map, tupI_toD]
  exact congrArg PySem.W.Datum.toD (minL_fold ns nss)
theorem minL_mem (ns : List Int) : ∀ nss : List (List Int), minL ns nss ∈ ns :: nss := by
  intro nss
  unfold minL
  induction nss generalizing ns with
  | nil => exact List.mem_cons_self
  | cons y r ih =>
    rw [List.foldl_cons]
    by_cases h : PySem.W.listLt y ns = true
    · rw [if_pos h]; exact List.mem_cons_of_mem _ (ih y)
    · rw [if_neg h]
      rcases List.mem_cons.mp (ih ns) with e | e
      · rw [e]; exact List.mem_cons_self
      · exact List.mem_cons_of_mem _ (List.mem_cons_of_mem _ e)
theorem lt_head {a b : Int} {x y : List Int} : (PySem.W.listLt (a :: x) (b :: y) = true → a ≤ b) ∧ (¬ PySem.W.listLt (a :: x) (b :: y) = true → b ≤ a) := by
  have u : PySem.W.listLt (a :: x) (b :: y) = if a = b then PySem.W.listLt x y else PySem.W.DatumOrd.lt a b := rfl
  have v : PySem.W.DatumOrd.lt a b = decide (a < b) := rfl
  rw [u, v]
  by_cases h : a = b
  · rw [if_pos h]; exact ⟨fun _ => by omega, fun _ => by omega⟩
  · rw [if_neg h]; exact ⟨fun z => by have := of_decide_eq_true z; omega, fun z => by have := of_decide_eq_false (Bool.eq_false_iff.mpr z); omega⟩
theorem minL_head : ∀ (nss : List (List Int)) (ns : List Int), (∀ y ∈ ns :: nss, y ≠ []) → ∀ y ∈ ns :: nss, (minL ns nss).headD 0 ≤ y.headD 0 := by
  intro nss
  unfold minL
  induction nss with
  | nil => intro ns _ y hy; rw [List.mem_singleton.mp hy]; exact Int.le_refl _
  | cons z r ih =>
    intro ns hn y hy
    rw [List.foldl_cons]
    have n1 := hn ns List.mem_cons_self
    have n2 := hn z (List.mem_cons_of_mem _ List.mem_cons_self)
    have hr : ∀ q ∈ r, q ≠ [] := fun q m => hn q (List.mem_cons_of_mem _ (List.mem_cons_of_mem _ m))
    obtain ⟨a, x, rfl⟩ := List.exists_cons_of_ne_nil n1
    obtain ⟨b, w, rfl⟩ := List.exists_cons_of_ne_nil n2
    by_cases h : PySem.W.listLt (b :: w) (a :: x) = true
    · rw [if_pos h]
      have k := ih (b :: w) (fun q m => (List.mem_cons.mp m).elim (fun e => by rw [e]; exact n2) (hr q))
      rcases List.mem_cons.mp hy with rfl | hy
      · exact Int.le_trans (k _ List.mem_cons_self) (lt_head.1 h)
      · exact k y hy
    · rw [if_neg h]
      have k := ih (a :: x) (fun q m => (List.mem_cons.mp m).elim (fun e => by rw [e]; exact n1) (hr q))
      rcases List.mem_cons.mp hy with rfl | hy
      · exact k _ List.mem_cons_self
      · rcases List.mem_cons.mp hy with rfl | hy
        · exact Int.le_trans (k _ List.mem_cons_self) (lt_head.2 h)
        · exact k y (List.mem_cons_of_mem _ hy)
theorem tupI_lay : ∀ ns : List Int, PyData.canLayAll0 (ns.map .int) = true
  | [] => by simp [PyData.canLayAll0]
  | n :: ns => by rw [List.map_cons]; simp only [PyData.canLayAll0, PyData.canLay0, tupI_lay ns, Bool.and_true]
theorem tupI_depths : ∀ ns : List Int, PyData.depthAll (ns.map .int) = 0
  | [] => by simp [PyData.depthAll]
  | n :: ns => by rw [List.map_cons]; simp [PyData.depthAll, PyData.depth, tupI_depths ns]
theorem tupI_depth : ∀ nss : List (List Int), PyData.depthAll (nss.map tupI) ≤ 1
  | [] => by simp [PyData.depthAll]
  | n :: ns => by
    have := tupI_depth ns
    rw [List.map_cons]
    show max (PyData.depth (.tuple (n.map .int))) (PyData.depthAll (ns.map tupI)) ≤ 1
    have e : PyData.depth (.tuple (n.map .int)) ≤ 1 := by simp [PyData.depth, tupI_depths n]
    omega
theorem tupI_alike (nss : List (List Int)) : PySem.W.AlikeAll (nss.map tupI) := by
  refine ⟨fun x hx y hy => ?_, fun x hx e => ?_⟩
  · obtain ⟨a, _, rfl⟩ := List.mem_map.mp hx
    obtain ⟨b, _, rfl⟩ := List.mem_map.mp hy
    rw [tupI_toD, tupI_toD]
    exact PySem.W.DatumOrd.alike _ _
  · obtain ⟨a, _, rfl⟩ := List.mem_map.mp hx
    cases e
def rMinT (K : PySem.W.Frag) : List V → Hp → VK → Prop := fun vs H Q => ∃ (a : Addr) (xs : List V) (ns : List Int) (nss : List (List Int)), vs = [.ref a] ∧ SqL K H a xs ∧ DpAll K H xs ((ns :: nss).map tupI) ∧
  ∀ (i : Nat) (v : V), xs[i]? = some v → (ns :: nss)[i]? = some (minL ns nss) → Q v H
theorem tupI_inj {a b : List Int} (h : tupI a = tupI b) : a = b := by
  have h2 : a.map PyData.int = b.map PyData.int := PyData.tuple.inj h
  have f : ∀ l : List Int, (l.map PyData.int).map (fun d => match d with | .int i => i | _ => 0) = l := fun l => by
    rw [List.map_map]; exact (List.map_congr_left fun _ _ => rfl).trans (List.map_id l)
  rw [← f a, ← f b, h2]
theorem reads_all_at {h : Heap} : ∀ {vs : List Value} {xs : List PyData} {as : List Addr}, ReadsAll h vs xs as → ∀ (i : Nat) (v : Value), vs[i]? = some v → ∃ d bs, xs[i]? = some d ∧ Reads h v d bs
  | _, _, _, .nil, i, v, e => by simp at e
  | _, _, _, .cons r rs, 0, v, e => by simp at e; subst e; exact ⟨_, _, rfl, r⟩
  | _, _, _, .cons r rs, i + 1, v, e => by
    obtain ⟨d, bs, h1, h2⟩ := reads_all_at rs i v (by simpa using e)
    exact ⟨d, bs, by simpa using h1, h2⟩
theorem vals_at : ∀ {xs : List V} {us : List Value}, Vals xs us → ∀ (i : Nat) (u : Value), us[i]? = some u → ∃ x, xs[i]? = some x ∧ RelV x u
  | _, _, .nil, i, u, e => by simp at e
  | _, _, .cons r rs, 0, u, e => by simp at e; subst e; exact ⟨_, rfl, r⟩
  | _, _, .cons r rs, i + 1, u, e => by
    obtain ⟨x, h1, h2⟩ := vals_at rs i u (by simpa using e)
    exact ⟨x, by simpa using h1, h2⟩
theorem cr_minT {X : Cx} (hc : X.calm = true) (hu : X.A.units + 10 < cLine) : CallR X (.builtin "min") (rMinT X.K) := by
  intro pins s σ H vs us Q I r h
  obtain ⟨a, xs, ns, nss, rfl, sq, dp, q⟩ := h
  obtain ⟨its, rv, hl, _⟩ := I.list sq
  rw [Vals.ref1 r]
  obtain ⟨as, rd⟩ := Dp.readsAll I _ _ its dp rv
  have dd := tupI_depth (ns :: nss)
  have al := tupI_alike (ns :: nss)
  rw [List.map_cons] at rd dd al
  refine PySem.W.min_list_data (I.ok.hd hc) hl.isList (x := tupI ns) (xs := nss.map tupI) (as := as) rd al (by omega) (fun i v h' tk bs gi rv' kp => ?_)
  rw [minD_minL] at rv'
  have gi' : its[i]? = some v := by simpa using gi
  obtain ⟨x, gx, rx⟩ := vals_at rv i v gi'
  obtain ⟨d, cs, gd, rdd⟩ := reads_all_at rd i v gi'
  have rdd' : Reads h' v d cs := PySem.W.reads_keeps kp rdd
  obtain ⟨m, gm, em⟩ : ∃ m, (ns :: nss)[i]? = some m ∧ d = tupI m := by
    have z : ((ns :: nss).map tupI)[i]? = some d := by rw [List.map_cons]; exact gd
    rw [List.getElem?_map] at z
    obtain ⟨m, z1, z2⟩ := Option.map_eq_some_iff.mp z
    exact ⟨m, z1, z2.symm⟩
  have e : tupI (minL ns nss) = d := (rv'.unique _ _ rdd').1
  rw [em] at e
  have e2 := tupI_inj e
  exact ⟨x, H, I.kept (t' := tk) kp, rx, q i x gx (by rw [gm, e2])⟩
end Rw

namespace Rw
open PySem PySem.Spec PyProof.Rows L2
/-! rules that name the written part by a letter (within comprehensions) -/
section
variable {X : Cx} {K : PySem.W.Frag}
theorem ix_tupK (h : X.K = K) : IxR X (rIxT K) := by subst h; exact ix_tup
theorem sl_tupK (h : X.K = K) : SlR X (rSlT K) := by subst h; exact sl_tup
theorem sl_listK (h : X.K = K) : SlR X (rSlL K) := by subst h; exact sl_list
theorem pg_tupK {es : List Expr} {k n : Nat} {t : TGs} {pos : Pos} (h : X.K = K) (hc : X.calm = true) (hg : PGs X es t) (hn : (assignEach es X.env).length = n := by rfl) (hst : (assignEach es X.env).findIdx? (·.1) = none := by rfl) : PG X (.Tuple es k pos) (gTup K n t) := by
  subst h; exact pg_tup hc hg hn hst
theorem pi_listK {tg l : Expr} {tl : TE} (h : X.K = K) (hl : PE X l tl) : PI X tg l (iList K tl) := by subst h; exact pi_list hl
theorem pi_tupK {tg l : Expr} {tl : TE} (h : X.K = K) (hl : PE X l tl) : PI X tg l (iTup K tl) := by subst h; exact pi_tup hl
theorem pe_fldK {e : Expr} {f : Str} {ta : TE} {pos : Pos} (h : X.K = K) (he : PE X e ta) (hb : attributeBase e f X.env (eval e X.env) = eval e X.env) : PE X (.Attribute e f pos) (tFld K ta f) := by subst h; exact pe_fld he hb
theorem call_len_seqK (h : X.K = K) : CallR X (.builtin "len") (fun xs H Q => ∃ p ys, xs = [.ref p] ∧ (SqL K H p ys ∨ SqT K H p ys) ∧ Q (.int ys.length) H) := by subst h; exact call_len_seq
end
end Rw

namespace Rw
open PySem PySem.Spec PyProof.Rows L2
/-! ### {t: v}, the key a tuple -/
def tDispT (trs : List (TE × TE)) : TE := fun σ H Q => ∀ p, H p = none → tPairs trs σ (upd H p (.dT [])) fun ps H2 => H2 p = some (.dT []) ∧ ∃ (b : Addr) (k : List Key) (v : V), ps = [(.ref b, v)] ∧ H2 b = some (.tup (k.map kV)) ∧ Q (.ref p) (upd H2 p (.dT [(k, v)]))
theorem pe_dispT {X : Cx} {pos : Pos} {k v : Expr} {trs : List (TE × TE)} (hu : X.A.units + 1 < cLine) (h : PPs X pos [some k] [v] trs) : PE X (.Dict [some k] [v] pos) (tDispT trs) := by
  refine ⟨fun pins s σ H Q I q => ?_⟩
  have nw := I.hok.fresh (Nat.le_refl s.heap.objs.size)
  have I1 := I.laid (a := s.heap.objs.size) (o := .dT []) (h' := s.heap.push { cls := .type "dict", data := .dict #[] }) (t' := s.toks) (fun _ _ z => Heap.get?_push_of_some _ z) (Nat.le_refl _) (dt_empty s.heap I.big)
  have one : (pairTrees [some k] [v] X.env pos).length = 1 := pairTrees_length [some k] [v] X.env pos rfl rfl
  have ne : pairTrees [some k] [v] X.env pos ≠ [] := fun z => by rw [z] at one; cases one
  rw [arm_eval_Dict, zip_pairTrees [some k] [v] X.env pos rfl rfl, dictDisplay_pairs _ ne (by omega)]
  refine wpAny_bind (wpAny_standAt (wpAny_bind (wpAny_subDictH (knd := tupleKind (mixKind X.prog X.w)) (show X.A.units < cLine by omega) (by omega) (thn (h.run pins _ σ _ _ I1 (q _ nw)) fun ws s2 ⟨ps, H2, I2, rel, e, b, kk, y, eps, eb, q2⟩ => ?_))))
  subst eps
  cases rel with
  | @cons p1 w1 _ ws' hp hr =>
    cases hr
    obtain ⟨wk, wv⟩ := w1
    obtain ⟨rk, rv⟩ := hp
    cases (show wk = Value.ref b from rk)
    obtain ⟨z, hd, xs, rx, dd⟩ := dt_of I2.hok e
    cases rx
    refine ⟨[(kk, b, wv)], ⟨rfl, rfl, key_of I2.hok eb, trivial⟩, dd, fun h' tk dd' hs => wpAny_pure ⟨.ref s.heap.objs.size, _, ?_, rfl, q2⟩⟩
    obtain ⟨o, es, ep, ho, h2, h3, h4, _, h5⟩ := dd'
    have ebN : b ≠ s.heap.objs.size := fun c => by
      rw [c] at eb
      rw [eb] at e
      cases e
    refine d_write I2 (by rw [e]; exact True.intro) hs ⟨o, ho⟩ ⟨by show 1 ≤ sizeLine; decide, hd, [(kk, b, wv)], .cons ⟨rfl, by rw [upd_ne ebN]; exact eb, rv⟩ .nil, o, es, ep, ho, h2, h3, h4, h5⟩
end Rw

namespace Rw
open PySem PySem.Spec PyProof.Rows L2
/-! ### sorted of a list of tuples of ints, of any lengths -/
abbrev VI := V × List Int
def encVI (b : VI) : PyData := tupI b.2
def leI (a b : List Int) : Bool := !decide (b < a)
theorem dataLe_VI : PySem.W.dataLe false encVI = fun a b => leI a.2 b.2 := by
  funext a b
  rw [PySem.W.dataLe_eq]
  show (!PySem.W.dataLt (.tuple (b.2.map .int)) (.tuple (a.2.map .int))) = _
  rw [PySem.W.dataLt_tuple]
  unfold leI
  exact congrArg _ (PySem.W.dataLt_ints b.2 a.2)
def sortVI (bs : List VI) : List VI := bs.mergeSort (fun a b => leI a.2 b.2)
theorem each_vals : ∀ {bs : List VI} {us : List Value}, Vals (bs.map (·.1)) us → PySem.W.EachIs (fun u b => RelV b.1 u) us bs
  | [], _, h => by cases h; exact .nil
  | b :: bs, _, h => by
    cases h with
    | cons r t => exact .cons r (each_vals t)
theorem vals_each : ∀ {bs : List VI} {us : List Value}, PySem.W.EachIs (fun u b => RelV b.1 u) us bs → Vals (bs.map (·.1)) us
  | _, _, .nil => .nil
  | _, _, .cons r t => .cons r (vals_each t)
theorem each_reads {h : Heap} : ∀ {bs : List VI} {us : List Value} {as : List Addr}, ReadsAll h us (bs.map encVI) as → PySem.W.EachIs (fun u b => ∃ as, Reads h u (encVI b) as) us bs
  | [], _, _, h => by cases h; exact .nil
  | b :: bs, _, _, h => by
    cases h with
    | cons r t => exact .cons ⟨_, r⟩ (each_reads t)
def rSortVI (K : PySem.W.Frag) : List V → Hp → VK → Prop := fun vs H Q => ∃ (a : Addr) (bs : List VI), vs = [.ref a] ∧ SqL K H a (bs.map (·.1)) ∧ DpAll K H (bs.map (·.1)) (bs.map encVI) ∧ (∀ b ∈ bs, b.2 ≠ []) ∧ bs.length ≤ 1000 ∧
  ∀ p, H p = none → Q (.ref p) (upd H p (.lst ((sortVI bs).map (·.1))))
theorem cr_sortVI {X : Cx} (hu : X.A.units + 10 < cLine) : CallR X (.builtin "sorted") (rSortVI X.K) := by
  intro pins s σ H vs us Q I r h
  obtain ⟨a, bs, rfl, sq, dp, hn, hl, q⟩ := h
  obtain ⟨its, rv, isl, _⟩ := I.list sq
  rw [Vals.ref1 r]
  obtain ⟨as, rd⟩ := Dp.readsAll I _ _ its dp rv
  refine PySem.W.sorted_data (bs := bs) (enc := encVI) (R := fun u b => RelV b.1 u) isl.isList (each_vals rv) (each_reads rd) (PySem.W.AllAlike.of fun b b' => ?_) (.inl fun d hd => ?_) (Nat.le_trans hl (small1000 (by omega))) (fun b hb => ?_) (fun out lo ho => ?_)
  · exact (tupI_alike [b.2, b'.2]).1 _ List.mem_cons_self _ (List.mem_cons_of_mem _ List.mem_cons_self)
  · obtain ⟨b, hb, rfl⟩ := List.mem_map.mp hd
    obtain ⟨x, xs, e⟩ := List.exists_cons_of_ne_nil (hn b hb)
    exact ⟨.int x, xs.map .int, by unfold encVI tupI; rw [e]; rfl⟩
  · have := tupI_depth [b.2]
    have e : PyData.depthAll ([b.2].map tupI) = max (PyData.depth (encVI b)) 0 := rfl
    omega
  · rw [dataLe_VI] at ho
    obtain ⟨ep, he⟩ := PyProof.Rows.sortedAll_at s.heap its out.toArray
    have hv : Vals ((sortVI bs).map (·.1)) out := vals_each ho
    have hlen : ((sortVI bs).map (·.1)).length ≤ sizeLine := by rw [hv.length, lo]; exact Nat.le_trans hl (small1000 (by omega))
    exact ⟨.ref _, upd H (s.heap.objs.size + 1) (.lst ((sortVI bs).map (·.1))), I.laid (t' := s.toks) (fun _ _ => PyProof.Rows.sortedAll_old) (Nat.le_succ _) ⟨hlen, out, ep, hv, by simpa using he⟩, rfl, q _ (I.hok.fresh (Nat.le_succ _))⟩
end Rw

namespace Rw
open PySem PySem.Spec PyProof.Rows L2
section
variable {X : Cx}
/-! new lists stand elsewhere than the modules' table -/
def tLstN (t : TA) : TE := fun σ H Q => t σ H fun xs H1 => xs.length ≤ sizeLine ∧ ∀ p, H1 p = none → p ≠ sysModules → Q (.ref p) (upd H1 p (.lst xs))
theorem pe_lstN {es : List Expr} {t : TA} {pos : Pos} (h : PA X es t) : PE X (.List es pos) (tLstN t) :=
  ⟨fun pins s σ H Q I hq => wpAny_List_spliced (thn (h.run pos pins s σ H _ I hq) fun us s1 ⟨xs, H1, I1, r, z, q⟩ => ⟨by rw [← r.length]; exact z,
    ⟨.ref s1.heap.objs.size, _, I1.laid (t' := s1.toks) (fun b u e => Heap.get?_push_of_some _ e) (Nat.le_refl _) (show ObjOk X.prog X.w _ _ _ (.lst xs) from ⟨z, us, 0, r, Heap.get?_push_size _ rfl⟩), rfl, q _ (I1.hok.fresh (Nat.le_refl _)) (Nat.ne_of_gt I1.big)⟩⟩)⟩
end
end Rw

namespace Rw
open PySem PySem.Spec PyProof.Rows L2
mutual
theorem Dt.dp {K : PySem.W.Frag} {av : List Addr} {H : Hp} : ∀ (d : PyData) (v : V), Dt av H v d → d.canLay0 = true → Dp K H v d
  | _, _, .non, _ => .non
  | _, _, .bl b, _ => .bl b
  | _, _, .int i, _ => .int i
  | _, _, .str x, _ => .str x
  | .list ds, _, .lst n e s, h => .lst (SqL.of e) (Dts.dp ds _ s (by simpa only [PyData.canLay0] using h))
  | .tuple ds, _, .tup n e s, h => .tup (SqT.of e) (Dts.dp ds _ s (by simpa only [PyData.canLay0] using h))
  | .dict _, _, .dct n e, h => by simp only [PyData.canLay0] at h; cases h
theorem Dts.dp {K : PySem.W.Frag} {av : List Addr} {H : Hp} : ∀ (ds : List PyData) (vs : List V), Dts av H vs ds → PyData.canLayAll0 ds = true → DpAll K H vs ds
  | [], _, .nil, _ => .nil
  | d :: ds, _, .cons x t, h => by
    simp only [PyData.canLayAll0, Bool.and_eq_true] at h
    exact .cons (Dt.dp d _ x h.1) (Dts.dp ds _ t h.2)
end
theorem lay_prs : ∀ na : List (Int × Int), PyData.canLayAll0 (na.map prD) = true
  | [] => by simp [PyData.canLayAll0]
  | p :: na => by
    have e : prD p = .tuple [.int p.1, .int p.2] := rfl
    rw [List.map_cons, e]
    simp only [PyData.canLayAll0, PyData.canLay0, lay_prs na, Bool.and_true]
theorem lay_pis : ∀ ps : List Pi, PyData.canLayAll0 (ps.map Pi.dat) = true
  | [] => by simp [PyData.canLayAll0]
  | p :: ps => by
    have e : p.dat = .tuple [.int p.x, .int p.y, .int p.l, .tuple (p.na.map prD), .tuple (p.fl.map prD)] := rfl
    rw [List.map_cons, e]
    simp only [PyData.canLayAll0, PyData.canLay0, lay_prs, lay_pis ps, Bool.and_true]
theorem shaped_of {d : PyData} (h : d.canLay0 = true) (h2 : d.depth ≤ 64) : SeqAt.shaped d = true := by
  unfold SeqAt.shaped
  rw [h, decide_eq_true h2]; rfl
theorem eqv_nil (ds : List PyData) : PyData.eqv (.tuple ds) (.tuple []) = ds.isEmpty := by
  cases ds <;> rfl
/-! ### a house as it is handed about: its two parts -/
theorem house_parts {av : List Addr} {H : Hp} {h : V} {n : Int} {ps : List PyData} (x : Dt av H h (houseD n ps)) :
    ∃ (ah ap : Addr) (xp : List V), h = .ref ah ∧ ah ∉ av ∧ H ah = some (.tup [.int n, .ref ap]) ∧ ap ∉ av ∧ H ap = some (.tup xp) ∧ Dts av H xp ps := by
  cases x with
  | tup na ea da =>
    cases da with
    | cons d1 da =>
      cases d1
      cases da with
      | cons d2 da =>
        cases da
        cases d2 with
        | tup nb eb db => exact ⟨_, _, _, rfl, na, ea, nb, eb, db⟩
/-! the pipe at a place -/
theorem pi_at {av : List Addr} {H : Hp} {xp : List V} {ps : List Pi} (hs : Dts av H xp (ps.map Pi.dat)) {i : Int} (h0 : 0 ≤ i) (h1 : i < ps.length) :
    ∃ (p : Pi) (pa T1 T2 : Addr), p ∈ ps ∧ ps[i.toNat]? = some p ∧ atI xp i = some (.ref pa) ∧ H pa = some (.tup [.int p.x, .int p.y, .int p.l, .ref T1, .ref T2]) := by
  have e : ps[i.toNat]? = some (ps[i.toNat]'(by omega)) := List.getElem?_eq_getElem (by omega)
  obtain ⟨v, ev, dv⟩ := hs.get i.toNat (d := (ps[i.toNat]'(by omega)).dat) (by rw [List.getElem?_map, e]; rfl)
  have ep : (ps[i.toNat]'(by omega)).dat = .tuple [.int (ps[i.toNat]'(by omega)).x, .int (ps[i.toNat]'(by omega)).y, .int (ps[i.toNat]'(by omega)).l, .tuple ((ps[i.toNat]'(by omega)).na.map prD), .tuple ((ps[i.toNat]'(by omega)).fl.map prD)] := rfl
  rw [ep] at dv
  cases dv with
  | tup na ea da =>
    cases da with
    | cons d1 da => cases d1; cases da with
      | cons d2 da => cases d2; cases da with
        | cons d3 da => cases d3; cases da with
          | cons d4 da => cases d4 with
            | tup _ _ _ => cases da with
              | cons d5 da => cases d5 with
                | tup _ _ _ =>
                  cases da
                  exact ⟨_, _, _, _, List.getElem_mem _, e, atI_of h0 ev, ea⟩
end Rw

namespace Rw
/-! ### places of a house, their distances -/
def pr (ps : List Pi) (i : Int) : Pi := ps.getD i.toNat default
theorem pr_mem {ps : List Pi} {i : Int} (h0 : 0 ≤ i) (h1 : i < ps.length) : pr ps i ∈ ps ∧ ps[i.toNat]? = some (pr ps i) := by
  have e : ps[i.toNat]? = some (ps[i.toNat]'(by omega)) := List.getElem?_eq_getElem (by omega)
  unfold pr
  rw [List.getD_eq_getElem?_getD, e]
  exact ⟨List.getElem_mem _, rfl⟩
theorem pr_of {ps : List Pi} {j : Nat} {p : Pi} (h : ps[j]? = some p) : pr ps (j : Int) = p := by
  unfold pr
  rw [List.getD_eq_getElem?_getD, show ((j : Int)).toNat = j by omega, h]; rfl
abbrev Pl := List Int
def okP (n : Int) (ps : List Pi) : Pl → Prop
  | [r] => 0 ≤ r ∧ r < n
  | [i, a] => 0 ≤ i ∧ i < ps.length ∧ 1 ≤ a ∧ a ≤ (pr ps i).l - 1
  | _ => False
def ab (a b : Int) : Int := if a < b then b - a else a - b
def dr (ps : List Pi) (d : Int → Int → Int) (s i a : Int) : Int := min (d s (pr ps i).x + a) (d s (pr ps i).y + ((pr ps i).l - a))
def Dp (ps : List Pi) (d : Int → Int → Int) : Pl → Pl → Int
  | [s], [t] => d s t
  | [s], [i, a] => dr ps d s i a
  | [i, a], [s] => dr ps d s i a
  | [i, a], [j, b] => if i = j then ab a b else min (a + dr ps d (pr ps i).x j b) ((pr ps i).l - a + dr ps d (pr ps i).y j b)
  | _, _ => 0
def nm (ps : List Pi) (i a : Int) : Pl := if a = 0 then [(pr ps i).x] else if a = (pr ps i).l then [(pr ps i).y] else [i, a]
def Adj (ps : List Pi) (p q : Pl) : Prop := ∃ i a : Int, 0 ≤ i ∧ i < ps.length ∧ 0 ≤ a ∧ a < (pr ps i).l ∧ ((p = nm ps i a ∧ q = nm ps i (a + 1)) ∨ (q = nm ps i a ∧ p = nm ps i (a + 1)))
theorem Adj.symm {ps : List Pi} {p q : Pl} (h : Adj ps p q) : Adj ps q p := by
  obtain ⟨i, a, h1, h2, h3, h4, h5⟩ := h
  exact ⟨i, a, h1, h2, h3, h4, h5.symm⟩
theorem ok_cases {n : Int} {ps : List Pi} {p : Pl} (h : okP n ps p) : (∃ r, p = [r] ∧ 0 ≤ r ∧ r < n) ∨ ∃ i a, p = [i, a] ∧ 0 ≤ i ∧ i < ps.length ∧ 1 ≤ a ∧ a ≤ (pr ps i).l - 1 := by
  match p, h with
  | [r], h => exact .inl ⟨r, rfl, h⟩
  | [i, a], h => exact .inr ⟨i, a, rfl, h⟩
/-! how a source is seen along a pipe: its foot -/
def foot1 (ps : List Pi) (d : Int → Int → Int) (r i : Int) : Int := if d r (pr ps i).y = d r (pr ps i).x + (pr ps i).l then 0 else (pr ps i).l
def foot (ps : List Pi) (d : Int → Int → Int) : Pl → Int → Int
  | [r], i => foot1 ps d r i
  | [j, b], i => if j = i then b else if d (pr ps j).x (pr ps i).x < d (pr ps j).y (pr ps i).x then foot1 ps d (pr ps j).x i else foot1 ps d (pr ps j).y i
  | _, _ => 0
section
variable {n : Int} {ps : List Pi} {d : Int → Int → Int} (T : Tm n ps d)
include T
theorem Tm.at {i : Int} (h0 : 0 ≤ i) (h1 : i < ps.length) : 0 ≤ (pr ps i).x ∧ (pr ps i).x < n ∧ 0 ≤ (pr ps i).y ∧ (pr ps i).y < n ∧ 1 ≤ (pr ps i).l := T.ok _ (pr_mem h0 h1).1
theorem Tm.stp {i s : Int} (h0 : 0 ≤ i) (h1 : i < ps.length) (s0 : 0 ≤ s) (s1 : s < n) : d s (pr ps i).x = d s (pr ps i).y + (pr ps i).l ∨ d s (pr ps i).y = d s (pr ps i).x + (pr ps i).l := T.step _ (pr_mem h0 h1).1 s s0 s1
theorem Tm.own {i : Int} (h0 : 0 ≤ i) (h1 : i < ps.length) : d (pr ps i).x (pr ps i).y = (pr ps i).l ∧ d (pr ps i).y (pr ps i).x = (pr ps i).l ∧ (pr ps i).x ≠ (pr ps i).y := by
  obtain ⟨a1, a2, a3, a4, a5⟩ := T.at h0 h1
  have e1 := T.stp h0 h1 a1 a2
  have e2 := T.sym (pr ps i).x (pr ps i).y
  have e3 := T.zero (pr ps i).x
  have e4 := T.nn a1 a2 a3 a4
  refine ⟨by omega, by omega, fun z => ?_⟩
  rw [← z] at e1
  omega
theorem Tm.sd {i j : Int} (h0 : 0 ≤ i) (h1 : i < ps.length) (k0 : 0 ≤ j) (k1 : j < ps.length) (ne : j ≠ i) :
    d (pr ps j).x (pr ps i).x - d (pr ps j).y (pr ps i).x = d (pr ps j).x (pr ps i).y - d (pr ps j).y (pr ps i).y :=
  T.side j.toNat i.toNat _ _ (by omega) (pr_mem k0 k1).2 (pr_mem h0 h1).2
theorem foot1_at {i r : Int} (h0 : 0 ≤ i) (h1 : i < ps.length) (r0 : 0 ≤ r) (r1 : r < n) {a : Int} (a0 : 0 ≤ a) (a1 : a ≤ (pr ps i).l) :
    dr ps d r i a = dr ps d r i (foot1 ps d r i) + ab a (foot1 ps d r i) ∧ (foot1 ps d r i = 0 ∨ foot1 ps d r i = (pr ps i).l) := by
  have l1 := (T.at h0 h1).2.2.2.2
  have st := T.stp h0 h1 r0 r1
  unfold dr foot1 ab
  by_cases u : d r (pr ps i).y = d r (pr ps i).x + (pr ps i).l
  · rw [if_pos u]; refine ⟨?_, .inl rfl⟩; split <;> omega
  · rw [if_neg u]; refine ⟨?_, .inr rfl⟩; split <;> omega
theorem dr_0 {i r : Int} (h0 : 0 ≤ i) (h1 : i < ps.length) (r0 : 0 ≤ r) (r1 : r < n) : dr ps d r i 0 = d r (pr ps i).x ∧ dr ps d r i (pr ps i).l = d r (pr ps i).y := by
  have l1 := (T.at h0 h1).2.2.2.2
  have st := T.stp h0 h1 r0 r1
  unfold dr; omega
/-! along a pipe, from a room -/
theorem Dp_room {i r : Int} (h0 : 0 ≤ i) (h1 : i < ps.length) (r0 : 0 ≤ r) (r1 : r < n) (a : Int) : Dp ps d [r] (nm ps i a) = dr ps d r i a := by
  unfold nm
  by_cases e : a = 0
  · rw [if_pos e, e]; exact (dr_0 T h0 h1 r0 r1).1.symm
  · rw [if_neg e]
    by_cases f : a = (pr ps i).l
    · rw [if_pos f, f]; exact (dr_0 T h0 h1 r0 r1).2.symm
    · rw [if_neg f]; rfl
/-! along a pipe, from a place of it -/
theorem Dp_same {i b : Int} (h0 : 0 ≤ i) (h1 : i < ps.length) (b0 : 1 ≤ b) (b1 : b ≤ (pr ps i).l - 1) (a : Int) : Dp ps d [i, b] (nm ps i a) = ab b a := by
  obtain ⟨o1, o2, o3⟩ := T.own h0 h1
  have z1 := T.zero (pr ps i).x
  have z2 := T.zero (pr ps i).y
  unfold nm
  by_cases e : a = 0
  · rw [if_pos e, e]; show dr ps d (pr ps i).x i b = _; unfold dr ab; split <;> omega
  · rw [if_neg e]
    by_cases f : a = (pr ps i).l
    · rw [if_pos f, f]; show dr ps d (pr ps i).y i b = _; unfold dr ab; split <;> omega
    · rw [if_neg f]; show (if i = i then ab b a else _) = _; rw [if_pos rfl]
/-! along a pipe, from a place of another one: as from the room on this side -/
theorem Dp_else {i j b : Int} (h0 : 0 ≤ i) (h1 : i < ps.length) (k0 : 0 ≤ j) (k1 : j < ps.length) (ne : j ≠ i) (b0 : 1 ≤ b) (b1 : b ≤ (pr ps j).l - 1) (a : Int) (a0 : 0 ≤ a) (a1 : a ≤ (pr ps i).l) :
    Dp ps d [j, b] (nm ps i a) = if d (pr ps j).x (pr ps i).x < d (pr ps j).y (pr ps i).x then b + dr ps d (pr ps j).x i a else (pr ps j).l - b + dr ps d (pr ps j).y i a := by
  obtain ⟨x0, x1, y0, y1, l1⟩ := T.at h0 h1
  obtain ⟨u0, u1, v0, v1, m1⟩ := T.at k0 k1
  have sd := T.sd h0 h1 k0 k1 ne
  have s1 := T.stp k0 k1 x0 x1
  have s2 := T.stp k0 k1 y0 y1
  rw [T.sym _ (pr ps j).x, T.sym _ (pr ps j).y] at s1 s2
  have t1 := T.stp h0 h1 u0 u1
  have t2 := T.stp h0 h1 v0 v1
  have main : min (b + dr ps d (pr ps j).x i a) ((pr ps j).l - b + dr ps d (pr ps j).y i a) = if d (pr ps j).x (pr ps i).x < d (pr ps j).y (pr ps i).x then b + dr ps d (pr ps j).x i a else (pr ps j).l - b + dr ps d (pr ps j).y i a := by
    unfold dr
    split <;> omega
  rw [← main]
  unfold nm
  by_cases e : a = 0
  · rw [if_pos e, e, (dr_0 T h0 h1 u0 u1).1, (dr_0 T h0 h1 v0 v1).1]
    show dr ps d (pr ps i).x j b = _
    unfold dr
    rw [T.sym _ (pr ps j).x, T.sym _ (pr ps j).y]
    omega
  · rw [if_neg e]
    by_cases f : a = (pr ps i).l
    · rw [if_pos f, f, (dr_0 T h0 h1 u0 u1).2, (dr_0 T h0 h1 v0 v1).2]
      show dr ps d (pr ps i).y j b = _
      unfold dr
      rw [T.sym _ (pr ps j).x, T.sym _ (pr ps j).y]
      omega
    · rw [if_neg f]
      show (if j = i then ab b a else _) = _
      rw [if_neg ne]
theorem foot_at {s : Pl} (hs : okP n ps s) {i : Int} (h0 : 0 ≤ i) (h1 : i < ps.length) : 0 ≤ foot ps d s i ∧ foot ps d s i ≤ (pr ps i).l ∧ (0 < foot ps d s i → foot ps d s i < (pr ps i).l → s = [i, foot ps d s i]) ∧
    ∀ a, 0 ≤ a → a ≤ (pr ps i).l → Dp ps d s (nm ps i a) = Dp ps d s (nm ps i (foot ps d s i)) + ab a (foot ps d s i) := by
  have l1 := (T.at h0 h1).2.2.2.2
  rcases ok_cases hs with ⟨r, rfl, r0, r1⟩ | ⟨j, b, rfl, k0, k1, b0, b1⟩
  · have f := fun a => foot1_at T (a := a) h0 h1 r0 r1
    have f0 := (f 0 (by omega) (by omega)).2
    show 0 ≤ foot1 ps d r i ∧ foot1 ps d r i ≤ _ ∧ (0 < foot1 ps d r i → foot1 ps d r i < _ → _) ∧ ∀ a, _ → _ → _ = Dp ps d [r] (nm ps i (foot1 ps d r i)) + ab a (foot1 ps d r i)
    refine ⟨by omega, by omega, fun _ _ => by omega, fun a a0 a1 => ?_⟩
    rw [Dp_room T h0 h1 r0 r1, Dp_room T h0 h1 r0 r1]
    exact (f a a0 a1).1
  · by_cases e : j = i
    · subst e
      have ef : foot ps d [j, b] j = b := if_pos rfl
      rw [ef]
      refine ⟨by omega, by omega, fun _ _ => rfl, fun a a0 a1 => ?_⟩
      rw [Dp_same T h0 h1 b0 b1, Dp_same T h0 h1 b0 b1]
      unfold ab
      split <;> split <;> omega
    · obtain ⟨u0, u1, v0, v1, m1⟩ := T.at k0 k1
      by_cases c : d (pr ps j).x (pr ps i).x < d (pr ps j).y (pr ps i).x
      · have ef : foot ps d [j, b] i = foot1 ps d (pr ps j).x i := (if_neg e).trans (if_pos c)
        have f := fun a => foot1_at T (a := a) h0 h1 u0 u1
        have f0 := (f 0 (by omega) (by omega)).2
        rw [ef]
        refine ⟨by omega, by omega, fun _ _ => by omega, fun a a0 a1 => ?_⟩
        rw [Dp_else T h0 h1 k0 k1 e b0 b1 a a0 a1, Dp_else T h0 h1 k0 k1 e b0 b1 _ (by omega) (by omega), if_pos c, if_pos c]
        have := (f a a0 a1).1
        omega
      · have ef : foot ps d [j, b] i = foot1 ps d (pr ps j).y i := (if_neg e).trans (if_neg c)
        have f := fun a => foot1_at T (a := a) h0 h1 v0 v1
        have f0 := (f 0 (by omega) (by omega)).2
        rw [ef]
        refine ⟨by omega, by omega, fun _ _ => by omega, fun a a0 a1 => ?_⟩
        rw [Dp_else T h0 h1 k0 k1 e b0 b1 a a0 a1, Dp_else T h0 h1 k0 k1 e b0 b1 _ (by omega) (by omega), if_neg c, if_neg c]
        have := (f a a0 a1).1
        omega
/-! one step nearer, one step farther -/
theorem Dp_step {s : Pl} (hs : okP n ps s) {p q : Pl} (h : Adj ps p q) : Dp ps d s q = Dp ps d s p + 1 ∨ Dp ps d s p = Dp ps d s q + 1 := by
  obtain ⟨i, a, h0, h1, a0, a1, h⟩ := h
  obtain ⟨_, _, _, f⟩ := foot_at T hs h0 h1
  have e1 := f a a0 (by omega)
  have e2 := f (a + 1) (by omega) (by omega)
  unfold ab at e1 e2
  rcases h with ⟨rfl, rfl⟩ | ⟨rfl, rfl⟩ <;> (split at e1 <;> split at e2 <;> omega)
/-! a door at a room by which one comes nearer -/
theorem foot1_door {r t i : Int} (h0 : 0 ≤ i) (h1 : i < ps.length) (r0 : 0 ≤ r) (r1 : r < n) : Dn ps d r t i.toNat ↔ (((pr ps i).x = t ∧ foot1 ps d r i ≠ 0) ∨ ((pr ps i).y = t ∧ foot1 ps d r i ≠ (pr ps i).l)) := by
  have l1 := (T.at h0 h1).2.2.2.2
  have st := T.stp h0 h1 r0 r1
  constructor
  · rintro ⟨p, e, h⟩
    rw [(pr_mem h0 h1).2] at e
    cases e
    unfold foot1
    rcases h with ⟨e1, e2⟩ | ⟨e1, e2⟩
    · left; refine ⟨e1, ?_⟩; rw [← e1] at e2; rw [if_neg (by omega)]; omega
    · right; refine ⟨e1, ?_⟩; rw [← e1] at e2; rw [if_pos (by omega)]; omega
  · intro h
    refine ⟨_, (pr_mem h0 h1).2, ?_⟩
    unfold foot1 at h
    rcases h with ⟨e1, e2⟩ | ⟨e1, e2⟩
    · left; refine ⟨e1, ?_⟩
      by_cases u : d r (pr ps i).y = d r (pr ps i).x + (pr ps i).l
      · rw [if_pos u] at e2; exact absurd rfl e2
      · rw [← e1]; omega
    · right; refine ⟨e1, ?_⟩
      by_cases u : d r (pr ps i).y = d r (pr ps i).x + (pr ps i).l
      · rw [← e1]; omega
      · rw [if_neg u] at e2; exact absurd rfl e2
/-! a room on the one side of a pipe: its doors are seen from that side's room -/
theorem foot_side {j b t : Int} (k0 : 0 ≤ j) (k1 : j < ps.length) (b0 : 1 ≤ b) (b1 : b ≤ (pr ps j).l - 1) (t0 : 0 ≤ t) (t1 : t < n) :
    ∃ c, (c = (pr ps j).x ∨ c = (pr ps j).y) ∧ 0 ≤ c ∧ c < n ∧
      (∀ i : Int, 0 ≤ i → i < ps.length → ((pr ps i).x = t ∨ (pr ps i).y = t) → i ≠ j → foot ps d [j, b] i = foot1 ps d c i) ∧
      ((pr ps j).x = t → c = t) ∧ ((pr ps j).y = t → c = t) := by
  obtain ⟨u0, u1, v0, v1, m1⟩ := T.at k0 k1
  obtain ⟨o1, o2, o3⟩ := T.own k0 k1
  have zx := T.zero (pr ps j).x
  have zy := T.zero (pr ps j).y
  by_cases c : d (pr ps j).x t < d (pr ps j).y t
  · refine ⟨(pr ps j).x, .inl rfl, u0, u1, fun i h0 h1 ht ne => ?_, fun e => e, fun e => ?_⟩
    · have sd := T.sd h0 h1 k0 k1 (Ne.symm ne)
      have c' : d (pr ps j).x (pr ps i).x < d (pr ps j).y (pr ps i).x := by rcases ht with e | e <;> rw [← e] at c <;> omega
      exact (if_neg (Ne.symm ne)).trans (if_pos c')
    · rw [← e] at c; omega
  · refine ⟨(pr ps j).y, .inr rfl, v0, v1, fun i h0 h1 ht ne => ?_, fun e => ?_, fun e => e⟩
    · have sd := T.sd h0 h1 k0 k1 (Ne.symm ne)
      have c' : ¬ d (pr ps j).x (pr ps i).x < d (pr ps j).y (pr ps i).x := by rcases ht with e | e <;> rw [← e] at c <;> omega
      exact (if_neg (Ne.symm ne)).trans (if_neg c')
    · rw [← e] at c; omega
/-! at a room that isn't the source there is just one such door -/
def Door (ps : List Pi) (d : Int → Int → Int) (s : Pl) (t i : Int) : Prop := 0 ≤ i ∧ i < ps.length ∧ (((pr ps i).x = t ∧ foot ps d s i ≠ 0) ∨ ((pr ps i).y = t ∧ foot ps d s i ≠ (pr ps i).l))
theorem own_foot {c i : Int} (h0 : 0 ≤ i) (h1 : i < ps.length) (c0 : 0 ≤ c) (c1 : c < n) : ((pr ps i).x = c → foot1 ps d c i = 0) ∧ ((pr ps i).y = c → foot1 ps d c i = (pr ps i).l) := by
  obtain ⟨x0, x1, y0, y1, l1⟩ := T.at h0 h1
  obtain ⟨o1, o2, o3⟩ := T.own h0 h1
  have zx := T.zero (pr ps i).x
  have zy := T.zero (pr ps i).y
  unfold foot1
  exact ⟨fun e => by rw [← e, if_pos (by omega)], fun e => by rw [← e, if_neg (by omega)]⟩
theorem door_ex {s : Pl} (hs : okP n ps s) {t : Int} (t0 : 0 ≤ t) (t1 : t < n) (ne : s ≠ [t]) : ∃ i, Door ps d s t i := by
  rcases ok_cases hs with ⟨r, rfl, r0, r1⟩ | ⟨j, b, rfl, k0, k1, b0, b1⟩
  · obtain ⟨i, p, e, h⟩ := T.par r t r0 r1 t0 t1 (fun z => ne (by rw [z]))
    have hi : i < ps.length := (List.getElem?_eq_some_iff.mp e).1
    refine ⟨(i : Int), by omega, by omega, ?_⟩
    exact (foot1_door T (by omega) (by omega) r0 r1).mp ⟨p, by rw [show ((i : Int)).toNat = i by omega]; exact e, h⟩
  · obtain ⟨c, hc, c0, c1, hf, ex, ey⟩ := foot_side T k0 k1 b0 b1 t0 t1
    have ej : foot ps d [j, b] j = b := if_pos rfl
    by_cases z : c = t
    · subst z
      rcases hc with e | e
      · exact ⟨j, k0, k1, .inl ⟨e.symm, by rw [ej]; omega⟩⟩
      · exact ⟨j, k0, k1, .inr ⟨e.symm, by rw [ej]; omega⟩⟩
    · obtain ⟨i, p, e, h⟩ := T.par c t c0 c1 t0 t1 z
      have hi : i < ps.length := (List.getElem?_eq_some_iff.mp e).1
      have dd := (foot1_door T (t := t) (i := (i : Int)) (by omega) (by omega) c0 c1).mp ⟨p, by rw [show ((i : Int)).toNat = i by omega]; exact e, h⟩
      have nj : (i : Int) ≠ j := fun w => by
        rw [w] at dd
        rcases dd with ⟨e1, _⟩ | ⟨e1, _⟩
        · exact z (ex e1)
        · exact z (ey e1)
      refine ⟨(i : Int), by omega, by omega, ?_⟩
      rw [hf i (by omega) (by omega) (dd.elim (fun q => .inl q.1) (fun q => .inr q.1)) nj]
      exact dd
theorem door_uni {s : Pl} (hs : okP n ps s) {t : Int} (t0 : 0 ≤ t) (t1 : t < n) {i i' : Int} (h : Door ps d s t i) (h' : Door ps d s t i') : i = i' := by
  obtain ⟨h0, h1, h2⟩ := h
  obtain ⟨g0, g1, g2⟩ := h'
  rcases ok_cases hs with ⟨r, rfl, r0, r1⟩ | ⟨j, b, rfl, k0, k1, b0, b1⟩
  · have := T.uni r t i.toNat i'.toNat r0 r1 t0 t1 ((foot1_door T h0 h1 r0 r1).mpr h2) ((foot1_door T g0 g1 r0 r1).mpr g2)
    omega
  · obtain ⟨c, hc, c0, c1, hf, ex, ey⟩ := foot_side T k0 k1 b0 b1 t0 t1
    have self : ∀ k : Int, 0 ≤ k → k < ps.length → (((pr ps k).x = t ∧ foot ps d [j, b] k ≠ 0) ∨ ((pr ps k).y = t ∧ foot ps d [j, b] k ≠ (pr ps k).l)) → k ≠ j → c ≠ t ∧ Dn ps d c t k.toNat := by
      intro k p0 p1 p2 nk
      rw [hf k p0 p1 (p2.elim (fun q => .inl q.1) (fun q => .inr q.1)) nk] at p2
      refine ⟨fun z => ?_, (foot1_door T p0 p1 c0 c1).mpr p2⟩
      have o := own_foot T p0 p1 c0 c1
      rcases p2 with ⟨e1, e2⟩ | ⟨e1, e2⟩
      · exact e2 (o.1 (by rw [e1, z]))
      · exact e2 (o.2 (by rw [e1, z]))
    have atj : (((pr ps j).x = t ∧ foot ps d [j, b] j ≠ 0) ∨ ((pr ps j).y = t ∧ foot ps d [j, b] j ≠ (pr ps j).l)) → c = t := fun q => q.elim (fun z => ex z.1) (fun z => ey z.1)
    by_cases e : i = j
    · by_cases e' : i' = j
      · rw [e, e']
      · rw [e] at h2
        exact absurd (atj h2) (self i' g0 g1 g2 e').1
    · by_cases e' : i' = j
      · rw [e'] at g2
        exact absurd (atj g2) (self i h0 h1 h2 e).1
      · have := T.uni c t i.toNat i'.toNat c0 c1 t0 t1 (self i h0 h1 h2 e).2 (self i' g0 g1 g2 e').2
        omega
end
end Rw

namespace Rw
/-! ### going through a tree from a source -/
structure Sr {α : Type} (src : α) (V : α → Prop) (D : α → Int) (E : α → α → Int → Prop) : Prop where
  zero : D src = 0
  here : V src
  nn : ∀ v, V v → 0 ≤ D v
  wt : ∀ u v w, V u → E u v w → 1 ≤ w
  cl : ∀ u v w, V u → E u v w → V v
  sym : ∀ u v w, E u v w → E v u w
  step : ∀ u v w, V u → E u v w → D v = D u + w ∨ D u = D v + w
  par : ∀ v, V v → v ≠ src → ∃ u w, E v u w ∧ D v = D u + w
  uni : ∀ v u w u' w', V v → E v u w → E v u' w' → D v = D u + w → D v = D u' + w' → u = u'
/-! what was found holds with each the one nearer to the source -/
def Pard {α : Type} (src : α) (D : α → Int) (E : α → α → Int → Prop) (F : List α) : Prop := ∀ v ∈ F, v ≠ src → ∃ u ∈ F, ∃ w, E v u w ∧ D v = D u + w
theorem Sr.found {α : Type} {src : α} {V : α → Prop} {D : α → Int} {E : α → α → Int → Prop} (S : Sr src V D E) {F : List α} (P : Pard src D E F) {u v : α} {w : Int} (hu : u ∈ F) (vu : V u) (e : E u v w) (hv : v ∉ F) : D v = D u + w := by
  rcases S.step u v w vu e with h | h
  · exact h
  · have h1 := S.nn v (S.cl u v w vu e)
    have h2 := S.wt u v w vu e
    have ne : u ≠ src := fun z => by rw [z, S.zero] at h; omega
    obtain ⟨u', m, w', e', h'⟩ := P u hu ne
    have := S.uni u v w u' w' vu e e' h h'
    rw [this] at hv
    exact absurd m hv
theorem Pard.snoc {α : Type} {src : α} {D : α → Int} {E : α → α → Int → Prop} {F : List α} (P : Pard src D E F) {u v : α} {w : Int} (hu : u ∈ F) (e : E v u w) (h : D v = D u + w) : Pard src D E (F ++ [v]) := fun x hx nx => by
  rcases List.mem_append.mp hx with m | m
  · obtain ⟨y, my, r⟩ := P x m nx
    exact ⟨y, List.mem_append_left _ my, r⟩
  · rw [List.mem_singleton.mp m]
    exact ⟨u, List.mem_append_left _ hu, w, e, h⟩
theorem Sr.all {α : Type} {src : α} {V : α → Prop} {D : α → Int} {E : α → α → Int → Prop} (S : Sr src V D E) {F : List α} (h0 : src ∈ F) (hc : ∀ u ∈ F, ∀ v w, E u v w → v ∈ F) : ∀ (k : Nat) (v : α), V v → (D v).toNat < k → v ∈ F
  | 0, _, _, h => absurd h (Nat.not_lt_zero _)
  | k + 1, v, vv, h => by
    by_cases e : v = src
    · rw [e]; exact h0
    · obtain ⟨u, w, euv, hd⟩ := S.par v vv e
      have vu := S.cl v u w vv euv
      have n1 := S.nn u vu
      have n2 := S.wt v u w vv euv
      exact hc u (S.all h0 hc k u vu (by omega)) v w (S.sym v u w euv)
/-! ### rooms -/
def RE (ps : List Pi) (u v w : Int) : Prop := ∃ (i : Nat) (p : Pi), ps[i]? = some p ∧ w = p.l ∧ ((p.x = u ∧ p.y = v) ∨ (p.y = u ∧ p.x = v))
theorem Tm.rooms {n : Int} {ps : List Pi} {d : Int → Int → Int} (T : Tm n ps d) {r : Int} (r0 : 0 ≤ r) (r1 : r < n) : Sr r (fun t => 0 ≤ t ∧ t < n) (d r) (RE ps) where
  zero := T.zero r
  here := ⟨r0, r1⟩
  nn := fun v h => T.nn r0 r1 h.1 h.2
  wt := fun u v w _ ⟨i, p, e, hw, _⟩ => by rw [hw]; exact (T.ok p (List.mem_of_getElem? e)).2.2.2.2
  cl := fun u v w _ ⟨i, p, e, _, h⟩ => by
    obtain ⟨a1, a2, a3, a4, _⟩ := T.ok p (List.mem_of_getElem? e)
    rcases h with ⟨_, h⟩ | ⟨_, h⟩ <;> rw [← h]
    · exact ⟨a3, a4⟩
    · exact ⟨a1, a2⟩
  sym := fun u v w ⟨i, p, e, hw, h⟩ => ⟨i, p, e, hw, h.elim (fun z => .inr ⟨z.2, z.1⟩) (fun z => .inl ⟨z.2, z.1⟩)⟩
  step := fun u v w _ ⟨i, p, e, hw, h⟩ => by
    have s := T.step p (List.mem_of_getElem? e) r r0 r1
    rw [hw]
    rcases h with ⟨h1, h2⟩ | ⟨h1, h2⟩ <;> rw [← h1, ← h2]
    · exact s.symm
    · exact s
  par := fun v h ne => by
    obtain ⟨i, p, e, h⟩ := T.par r v r0 r1 h.1 h.2 (Ne.symm ne)
    rcases h with ⟨h1, h2⟩ | ⟨h1, h2⟩
    · exact ⟨p.y, p.l, ⟨i, p, e, rfl, .inl ⟨h1, rfl⟩⟩, h2.symm⟩
    · exact ⟨p.x, p.l, ⟨i, p, e, rfl, .inr ⟨h1, rfl⟩⟩, h2.symm⟩
  uni := fun v u w u' w' h ⟨i, p, e, hw, hp⟩ ⟨j, q, f, hv, hq⟩ h1 h2 => by
    have t1 : Dn ps (d) r v i := ⟨p, e, hp.elim (fun z => .inl ⟨z.1, by rw [z.2, ← hw]; exact h1.symm⟩) (fun z => .inr ⟨z.1, by rw [z.2, ← hw]; exact h1.symm⟩)⟩
    have t2 : Dn ps (d) r v j := ⟨q, f, hq.elim (fun z => .inl ⟨z.1, by rw [z.2, ← hv]; exact h2.symm⟩) (fun z => .inr ⟨z.1, by rw [z.2, ← hv]; exact h2.symm⟩)⟩
    have ij := T.uni r v i j r0 r1 h.1 h.2 t1 t2
    subst ij
    rw [e] at f
    cases f
    have hi : i < ps.length := (List.getElem?_eq_some_iff.mp e).1
    have o := (T.own (i := (i : Int)) (by omega) (by omega)).2.2
    rw [pr_of e] at o
    rcases hp with ⟨a1, a2⟩ | ⟨a1, a2⟩ <;> rcases hq with ⟨b1, b2⟩ | ⟨b1, b2⟩
    · rw [← a2, ← b2]
    · exact absurd (a1.trans b1.symm) o
    · exact absurd (b1.trans a1.symm) o
    · rw [← a2, ← b2]
/-! ### places -/
theorem nm_0 (ps : List Pi) (i : Int) : nm ps i 0 = [(pr ps i).x] := if_pos rfl
theorem nm_l {ps : List Pi} {i : Int} (h : (pr ps i).l ≠ 0) : nm ps i (pr ps i).l = [(pr ps i).y] := (if_neg h).trans (if_pos rfl)
theorem nm_mid {ps : List Pi} {i a : Int} (h : a ≠ 0) (h2 : a ≠ (pr ps i).l) : nm ps i a = [i, a] := (if_neg h).trans (if_neg h2)
theorem nm_two {ps : List Pi} {i a j b : Int} (h : nm ps i a = [j, b]) : i = j ∧ a = b ∧ a ≠ 0 ∧ a ≠ (pr ps i).l := by
  unfold nm at h
  split at h
  · cases h
  · split at h
    · cases h
    · rename_i x y
      cases h
      exact ⟨rfl, rfl, x, y⟩
theorem nm_one {ps : List Pi} {i a t : Int} (h : nm ps i a = [t]) : (a = 0 ∧ (pr ps i).x = t) ∨ (a = (pr ps i).l ∧ (pr ps i).y = t) := by
  unfold nm at h
  split at h
  · rename_i x; cases h; exact .inl ⟨x, rfl⟩
  · split at h
    · rename_i x; cases h; exact .inr ⟨x, rfl⟩
    · cases h
section
variable {n : Int} {ps : List Pi} {d : Int → Int → Int} (T : Tm n ps d)
include T
theorem ok_nm {i a : Int} (h0 : 0 ≤ i) (h1 : i < ps.length) (a0 : 0 ≤ a) (a1 : a ≤ (pr ps i).l) : okP n ps (nm ps i a) := by
  obtain ⟨x0, x1, y0, y1, l1⟩ := T.at h0 h1
  by_cases e : a = 0
  · rw [e, nm_0]; exact ⟨x0, x1⟩
  · by_cases f : a = (pr ps i).l
    · rw [f, nm_l (by omega)]; exact ⟨y0, y1⟩
    · rw [nm_mid e f]; exact ⟨h0, h1, by omega, by omega⟩
theorem Dp_nn {s q : Pl} (hs : okP n ps s) (hq : okP n ps q) : 0 ≤ Dp ps d s q := by
  have drn : ∀ {r i a : Int}, 0 ≤ r → r < n → 0 ≤ i → i < ps.length → 0 ≤ a → a ≤ (pr ps i).l → 0 ≤ dr ps d r i a := fun {r i a} r0 r1 h0 h1 a0 a1 => by
    obtain ⟨x0, x1, y0, y1, l1⟩ := T.at h0 h1
    have e1 := T.nn r0 r1 x0 x1
    have e2 := T.nn r0 r1 y0 y1
    unfold dr; omega
  rcases ok_cases hs with ⟨r, rfl, r0, r1⟩ | ⟨j, b, rfl, k0, k1, b0, b1⟩ <;> rcases ok_cases hq with ⟨t, rfl, t0, t1⟩ | ⟨i, a, rfl, h0, h1, a0, a1⟩
  · exact T.nn r0 r1 t0 t1
  · exact drn r0 r1 h0 h1 (by omega) (by omega)
  · exact drn t0 t1 k0 k1 (by omega) (by omega)
  · obtain ⟨x0, x1, y0, y1, l1⟩ := T.at k0 k1
    have e1 := drn (a := a) x0 x1 h0 h1 (by omega) (by omega)
    have e2 := drn (a := a) y0 y1 h0 h1 (by omega) (by omega)
    show 0 ≤ (if j = i then ab b a else _)
    split
    · unfold ab; split <;> omega
    · omega
theorem Dp_self {s : Pl} (hs : okP n ps s) : Dp ps d s s = 0 := by
  rcases ok_cases hs with ⟨r, rfl, r0, r1⟩ | ⟨j, b, rfl, k0, k1, b0, b1⟩
  · exact T.zero r
  · show (if j = j then ab b b else _) = 0
    rw [if_pos rfl]
    unfold ab; split <;> omega
theorem Dp_par {s : Pl} (hs : okP n ps s) {p : Pl} (hp : okP n ps p) (ne : p ≠ s) : ∃ q, Adj ps p q ∧ Dp ps d s p = Dp ps d s q + 1 := by
  rcases ok_cases hp with ⟨t, rfl, t0, t1⟩ | ⟨i, a, rfl, h0, h1, a0, a1⟩
  · obtain ⟨i, h0, h1, h⟩ := door_ex T hs t0 t1 (Ne.symm ne)
    obtain ⟨f0, f1, _, f⟩ := foot_at T hs h0 h1
    have l1 := (T.at h0 h1).2.2.2.2
    rcases h with ⟨e, g⟩ | ⟨e, g⟩
    · refine ⟨nm ps i 1, ⟨i, 0, h0, h1, by omega, by omega, .inl ⟨by rw [nm_0, e], rfl⟩⟩, ?_⟩
      have e1 := f 0 (by omega) (by omega)
      have e2 := f 1 (by omega) (by omega)
      rw [nm_0, e] at e1
      unfold ab at e1 e2
      split at e1 <;> split at e2 <;> omega
    · refine ⟨nm ps i ((pr ps i).l - 1), ⟨i, (pr ps i).l - 1, h0, h1, by omega, by omega, .inr ⟨rfl, by rw [show (pr ps i).l - 1 + 1 = (pr ps i).l by omega, nm_l (by omega), e]⟩⟩, ?_⟩
      have e1 := f (pr ps i).l (by omega) (by omega)
      have e2 := f ((pr ps i).l - 1) (by omega) (by omega)
      rw [nm_l (by omega), e] at e1
      unfold ab at e1 e2
      split at e1 <;> split at e2 <;> omega
  · obtain ⟨f0, f1, f2, f⟩ := foot_at T hs h0 h1
    have nf : foot ps d s i ≠ a := fun z => ne (by rw [f2 (by omega) (by omega), z])
    have pe : nm ps i a = [i, a] := nm_mid (by omega) (by omega)
    have e1 := f a (by omega) (by omega)
    rw [pe] at e1
    by_cases c : foot ps d s i < a
    · refine ⟨nm ps i (a - 1), ⟨i, a - 1, h0, h1, by omega, by omega, .inr ⟨rfl, by rw [show a - 1 + 1 = a by omega, pe]⟩⟩, ?_⟩
      have e2 := f (a - 1) (by omega) (by omega)
      unfold ab at e1 e2
      split at e1 <;> split at e2 <;> omega
    · refine ⟨nm ps i (a + 1), ⟨i, a, h0, h1, by omega, by omega, .inl ⟨pe.symm, rfl⟩⟩, ?_⟩
      have e2 := f (a + 1) (by omega) (by omega)
      unfold ab at e1 e2
      split at e1 <;> split at e2 <;> omega
/-! a next place of a room, nearer to the source: by which door -/
theorem near_door {s : Pl} (hs : okP n ps s) {t : Int} {q : Pl} (h : Adj ps [t] q) (hd : Dp ps d s [t] = Dp ps d s q + 1) : ∃ i, Door ps d s t i ∧ (((pr ps i).x = t ∧ q = nm ps i 1) ∨ ((pr ps i).y = t ∧ q = nm ps i ((pr ps i).l - 1))) := by
  obtain ⟨i, a, h0, h1, a0, a1, h⟩ := h
  obtain ⟨f0, f1, _, f⟩ := foot_at T hs h0 h1
  have e1 := f a a0 (by omega)
  have e2 := f (a + 1) (by omega) (by omega)
  rcases h with ⟨hp, rfl⟩ | ⟨rfl, hp⟩
  · rw [← hp] at e1
    rcases nm_one hp.symm with ⟨z, ex⟩ | ⟨z, _⟩
    · subst z
      refine ⟨i, ⟨h0, h1, .inl ⟨ex, fun w => ?_⟩⟩, .inl ⟨ex, rfl⟩⟩
      rw [w] at e1 e2
      unfold ab at e1 e2
      split at e1 <;> split at e2 <;> omega
    · omega
  · rw [← hp] at e2
    rcases nm_one hp.symm with ⟨z, _⟩ | ⟨z, ey⟩
    · omega
    · have ea : a = (pr ps i).l - 1 := by omega
      refine ⟨i, ⟨h0, h1, .inr ⟨ey, fun w => ?_⟩⟩, .inr ⟨ey, by rw [ea]⟩⟩
      rw [w] at e1 e2
      unfold ab at e1 e2
      split at e1 <;> split at e2 <;> omega
/-! a next place of a place within a pipe -/
theorem near_mid {i a : Int} (a0 : 1 ≤ a) (a1 : a ≤ (pr ps i).l - 1) {q : Pl} (h : Adj ps [i, a] q) : q = nm ps i (a - 1) ∨ q = nm ps i (a + 1) := by
  obtain ⟨j, b, h0, h1, b0, b1, h⟩ := h
  rcases h with ⟨hp, rfl⟩ | ⟨rfl, hp⟩
  · obtain ⟨e1, e2, _, _⟩ := nm_two hp.symm
    subst e1 e2
    exact .inr rfl
  · obtain ⟨e1, e2, _, _⟩ := nm_two hp.symm
    subst e1
    left
    rw [← e2, show b + 1 - 1 = b by omega]
theorem Dp_uni {s : Pl} (hs : okP n ps s) {p : Pl} (hp : okP n ps p) {q q' : Pl} (h : Adj ps p q) (h' : Adj ps p q') (e : Dp ps d s p = Dp ps d s q + 1) (e' : Dp ps d s p = Dp ps d s q' + 1) : q = q' := by
  rcases ok_cases hp with ⟨t, rfl, t0, t1⟩ | ⟨i, a, rfl, h0, h1, a0, a1⟩
  · obtain ⟨i, d1, c1⟩ := near_door T hs h e
    obtain ⟨i', d2, c2⟩ := near_door T hs h' e'
    have ii := door_uni T hs t0 t1 d1 d2
    subst ii
    have o := (T.own d1.1 d1.2.1).2.2
    rcases c1 with ⟨a1, a2⟩ | ⟨a1, a2⟩ <;> rcases c2 with ⟨b1, b2⟩ | ⟨b1, b2⟩
    · rw [a2, b2]
    · exact absurd (a1.trans b1.symm) o
    · exact absurd (b1.trans a1.symm) o
    · rw [a2, b2]
  · obtain ⟨f0, f1, f2, f⟩ := foot_at T hs h0 h1
    have pe : nm ps i a = [i, a] := nm_mid (by omega) (by omega)
    have g1 := f a (by omega) (by omega)
    have g2 := f (a - 1) (by omega) (by omega)
    have g3 := f (a + 1) (by omega) (by omega)
    rw [pe] at g1
    rcases near_mid T a0 a1 h with rfl | rfl <;> rcases near_mid T a0 a1 h' with rfl | rfl
    · rfl
    · unfold ab at g1 g2 g3; split at g1 <;> split at g2 <;> split at g3 <;> omega
    · unfold ab at g1 g2 g3; split at g1 <;> split at g2 <;> split at g3 <;> omega
    · rfl
theorem ok_adj {p q : Pl} (h : Adj ps p q) : okP n ps q := by
  obtain ⟨i, a, h0, h1, a0, a1, h⟩ := h
  rcases h with ⟨_, rfl⟩ | ⟨rfl, _⟩
  · exact ok_nm T h0 h1 (by omega) (by omega)
  · exact ok_nm T h0 h1 (by omega) (by omega)
theorem Tm.places {s : Pl} (hs : okP n ps s) : Sr s (okP n ps) (Dp ps d s) (fun p q w => Adj ps p q ∧ w = 1) where
  zero := Dp_self T hs
  here := hs
  nn := fun v h => Dp_nn T hs h
  wt := fun u v w _ h => by rw [h.2]; exact Int.le_refl 1
  cl := fun u v w _ h => ok_adj T h.1
  sym := fun u v w h => ⟨h.1.symm, h.2⟩
  step := fun u v w _ h => by rw [h.2]; exact Dp_step T hs h.1
  par := fun v hv ne => by
    obtain ⟨q, h1, h2⟩ := Dp_par T hs hv ne
    exact ⟨q, 1, ⟨h1, rfl⟩, h2⟩
  uni := fun v u w u' w' hv h h' e e' => by
    rw [h.2] at e
    rw [h'.2] at e'
    exact Dp_uni T hs hv h.1 h'.1 e e'
end
end Rw

namespace Rw
/-! ### distances of places are a metric; what lies on the row between two -/
section
variable {n : Int} {ps : List Pi} {d : Int → Int → Int} (T : Tm n ps d)
include T
theorem Dp_sym {p q : Pl} (hp : okP n ps p) (hq : okP n ps q) : Dp ps d p q = Dp ps d q p := by
  rcases ok_cases hp with ⟨r, rfl, r0, r1⟩ | ⟨i, b, rfl, h0, h1, b0, b1⟩ <;> rcases ok_cases hq with ⟨t, rfl, t0, t1⟩ | ⟨j, a, rfl, k0, k1, a0, a1⟩
  · exact T.sym r t
  · rfl
  · rfl
  · show (if i = j then ab b a else min (b + dr ps d (pr ps i).x j a) ((pr ps i).l - b + dr ps d (pr ps i).y j a)) = (if j = i then ab a b else min (a + dr ps d (pr ps j).x i b) ((pr ps j).l - a + dr ps d (pr ps j).y i b))
    by_cases e : i = j
    · rw [if_pos e, if_pos e.symm]; unfold ab; split <;> split <;> omega
    · rw [if_neg e, if_neg (Ne.symm e)]
      unfold dr
      rw [T.sym (pr ps j).x (pr ps i).x, T.sym (pr ps j).x (pr ps i).y, T.sym (pr ps j).y (pr ps i).x, T.sym (pr ps j).y (pr ps i).y]
      omega
theorem Dp_eq0 {p q : Pl} (hp : okP n ps p) (hq : okP n ps q) (h : Dp ps d p q = 0) : p = q := by
  apply Classical.byContradiction
  intro ne
  obtain ⟨z, az, ez⟩ := Dp_par T hp hq (Ne.symm ne)
  have := Dp_nn T hp (ok_adj T az)
  omega
theorem Dp_pos {p q : Pl} (hp : okP n ps p) (hq : okP n ps q) (h : p ≠ q) : 1 ≤ Dp ps d p q := by
  have h1 := Dp_nn T hp hq
  by_cases e : Dp ps d p q = 0
  · exact absurd (Dp_eq0 T hp hq e) h
  · omega
theorem Dp_tri {x y : Pl} (hx : okP n ps x) (hy : okP n ps y) : ∀ (k : Nat) (z : Pl), okP n ps z → (Dp ps d y z).toNat = k → Dp ps d x z ≤ Dp ps d x y + Dp ps d y z
  | 0, z, hz, e => by
    have h1 := Dp_nn T hy hz
    have e0 := Dp_eq0 T hy hz (by omega)
    subst e0
    omega
  | k + 1, z, hz, e => by
    have h1 := Dp_nn T hy hz
    have ne : z ≠ y := fun w => by rw [w, Dp_self T hy] at e; cases e
    obtain ⟨u, au, eu⟩ := Dp_par T hy hz ne
    have ou := ok_adj T au
    have ih := Dp_tri hx hy k u ou (by omega)
    have st := Dp_step T hx au
    omega
theorem Dp_le {x y z : Pl} (hx : okP n ps x) (hy : okP n ps y) (hz : okP n ps z) : Dp ps d x z ≤ Dp ps d x y + Dp ps d y z := Dp_tri T hx hy _ z hz rfl
/-! on the row between two: the sums -/
def Btw (ps : List Pi) (d : Int → Int → Int) (x z y : Pl) : Prop := Dp ps d x y + Dp ps d y z = Dp ps d x z
/-! the one nearer to x, from z on: between y and z, too -/
theorem btw_par {x y z u : Pl} (hx : okP n ps x) (hy : okP n ps y) (hz : okP n ps z) (h : Btw ps d x z y) (ne : y ≠ z) (au : Adj ps z u) (eu : Dp ps d x z = Dp ps d x u + 1) : Btw ps d x u y ∧ Dp ps d y z = Dp ps d y u + 1 := by
  obtain ⟨w, aw, ew⟩ := Dp_par T hy hz (Ne.symm ne)
  have ow := ok_adj T aw
  have t := Dp_le T hx hy ow
  have s := Dp_step T hx aw
  unfold Btw at h
  have e : Dp ps d x z = Dp ps d x w + 1 := by omega
  have : u = w := Dp_uni T hx hz au aw eu e
  subst this
  exact ⟨by unfold Btw; omega, ew⟩
theorem btw_up {x y z u : Pl} (hx : okP n ps x) (hy : okP n ps y) (hz : okP n ps z) (h : Btw ps d x u y) (au : Adj ps z u) (eu : Dp ps d x z = Dp ps d x u + 1) : Btw ps d x z y := by
  have t := Dp_le T hx hy hz
  have s := Dp_step T hy au
  have ou := ok_adj T au
  unfold Btw at h ⊢
  have t2 := Dp_le T hx hy ou
  omega
theorem btw_refl {x z : Pl} (hx : okP n ps x) (hz : okP n ps z) : Btw ps d x z x ∧ Btw ps d x z z := by
  unfold Btw
  rw [Dp_self T hx, Dp_self T hz]
  omega
/-! two places on the row, as far from its beginning, are one -/
theorem btw_one {x y y' : Pl} (hx : okP n ps x) (hy : okP n ps y) (hy' : okP n ps y') : ∀ (k : Nat) (z : Pl), okP n ps z → (Dp ps d y z).toNat = k → Btw ps d x z y → Btw ps d x z y' → Dp ps d x y = Dp ps d x y' → y = y'
  | 0, z, hz, e, h, h', ed => by
    have h1 := Dp_nn T hy hz
    have h2 := Dp_nn T hy' hz
    unfold Btw at h h'
    rw [Dp_eq0 T hy hz (by omega), Dp_eq0 T hy' hz (by omega)]
  | k + 1, z, hz, e, h, h', ed => by
    have h1 := Dp_nn T hy hz
    have h2 := Dp_nn T hy' hz
    have b1 : y ≠ z := fun w => by rw [w, Dp_self T hz] at e; cases e
    have b2 : y' ≠ z := fun w => by
      unfold Btw at h h'
      rw [w, Dp_self T hz] at h'
      have := Dp_eq0 T hy hz (by rw [w] at ed; omega)
      exact b1 this
    have nx : z ≠ x := fun w => by
      unfold Btw at h
      rw [w, Dp_self T hx] at h
      have := Dp_nn T hx hy
      have := Dp_nn T hy hx
      rw [w] at h1
      exact b1 (by rw [w]; exact Dp_eq0 T hy hx (by omega))
    obtain ⟨u, au, eu⟩ := Dp_par T hx hz nx
    have p1 := btw_par T hx hy hz h b1 au eu
    have p2 := btw_par T hx hy' hz h' b2 au eu
    exact btw_one hx hy hy' k u (ok_adj T au) (by omega) p1.1 p2.1 ed
end
end Rw

namespace Rw
/-! ### steps, one by one -/
def AdjTo (ps : List Pi) (i k : Int) (p q : Pl) : Prop := ∃ j a : Int, 0 ≤ j ∧ (j < i ∧ 0 ≤ a ∧ a < (pr ps j).l ∨ j = i ∧ 0 ≤ a ∧ a < k) ∧ ((p = nm ps j a ∧ q = nm ps j (a + 1)) ∨ (q = nm ps j a ∧ p = nm ps j (a + 1)))
theorem AdjTo.all {ps : List Pi} {p q : Pl} : AdjTo ps ps.length 0 p q ↔ Adj ps p q := by
  constructor
  · rintro ⟨j, a, h0, h | h, r⟩
    · exact ⟨j, a, h0, h.1, h.2.1, h.2.2, r⟩
    · omega
  · rintro ⟨j, a, h0, h1, h2, h3, r⟩
    exact ⟨j, a, h0, .inl ⟨h1, h2, h3⟩, r⟩
theorem AdjTo.next {ps : List Pi} {i : Int} (hi : 0 ≤ i) {p q : Pl} : AdjTo ps i (pr ps i).l p q ↔ AdjTo ps (i + 1) 0 p q := by
  constructor
  · rintro ⟨j, a, h0, h | h, r⟩
    · exact ⟨j, a, h0, .inl ⟨by omega, h.2.1, h.2.2⟩, r⟩
    · exact ⟨j, a, h0, .inl ⟨by omega, h.2.1, by rw [h.1]; exact h.2.2⟩, r⟩
  · rintro ⟨j, a, h0, h | h, r⟩
    · by_cases e : j = i
      · exact ⟨j, a, h0, .inr ⟨e, h.2.1, by rw [← e]; exact h.2.2⟩, r⟩
      · exact ⟨j, a, h0, .inl ⟨by omega, h.2.1, h.2.2⟩, r⟩
    · omega
theorem AdjTo.step {ps : List Pi} {i k : Int} (hi : 0 ≤ i) (hk : 0 ≤ k) {p q : Pl} : AdjTo ps i (k + 1) p q ↔ (AdjTo ps i k p q ∨ (p = nm ps i k ∧ q = nm ps i (k + 1))) ∨ (p = nm ps i (k + 1) ∧ q = nm ps i k) := by
  constructor
  · rintro ⟨j, a, h0, h | h, r⟩
    · exact .inl (.inl ⟨j, a, h0, .inl h, r⟩)
    · by_cases e : a = k
      · obtain ⟨rfl, _⟩ := h
        subst e
        rcases r with ⟨r1, r2⟩ | ⟨r1, r2⟩
        · exact .inl (.inr ⟨r1, r2⟩)
        · exact .inr ⟨r2, r1⟩
      · exact .inl (.inl ⟨j, a, h0, .inr ⟨h.1, h.2.1, by omega⟩, r⟩)
  · rintro ((⟨j, a, h0, h | h, r⟩ | ⟨r1, r2⟩) | ⟨r1, r2⟩)
    · exact ⟨j, a, h0, .inl h, r⟩
    · exact ⟨j, a, h0, .inr ⟨h.1, h.2.1, by omega⟩, r⟩
    · exact ⟨i, k, hi, .inr ⟨rfl, hk, by omega⟩, .inl ⟨r1, r2⟩⟩
    · exact ⟨i, k, hi, .inr ⟨rfl, hk, by omega⟩, .inr ⟨r2, r1⟩⟩
section
variable {n : Int} {ps : List Pi} {d : Int → Int → Int} (T : Tm n ps d)
include T
theorem nm_inj {i a b : Int} (h0 : 0 ≤ i) (h1 : i < ps.length) (a0 : 0 ≤ a) (a1 : a ≤ (pr ps i).l) (b0 : 0 ≤ b) (b1 : b ≤ (pr ps i).l) (h : nm ps i a = nm ps i b) : a = b := by
  have o := (T.own h0 h1).2.2
  have l1 := (T.at h0 h1).2.2.2.2
  by_cases ea : a = 0
  · subst ea
    rw [nm_0] at h
    rcases nm_one h.symm with ⟨z, _⟩ | ⟨_, z⟩
    · exact z.symm
    · exact absurd z.symm o
  · by_cases el : a = (pr ps i).l
    · rw [el, nm_l (by omega)] at h
      rcases nm_one h.symm with ⟨_, z⟩ | ⟨z, _⟩
      · exact absurd z o
      · rw [el, z]
    · rw [nm_mid ea el] at h
      obtain ⟨_, z, _, _⟩ := nm_two h.symm
      exact z.symm
/-! one step has one name -/
theorem step_one {i a j b : Int} (h0 : 0 ≤ i) (h1 : i < ps.length) (a0 : 0 ≤ a) (a1 : a < (pr ps i).l) (k0 : 0 ≤ j) (k1 : j < ps.length) (b0 : 0 ≤ b) (b1 : b < (pr ps j).l)
    (h : (nm ps i a = nm ps j b ∧ nm ps i (a + 1) = nm ps j (b + 1)) ∨ (nm ps i a = nm ps j (b + 1) ∧ nm ps i (a + 1) = nm ps j b)) : i = j ∧ a = b := by
  have same : i = j → a = b := fun e => by
    subst e
    rcases h with ⟨z, _⟩ | ⟨z1, z2⟩
    · exact nm_inj T h0 h1 a0 (by omega) b0 (by omega) z
    · have w1 := nm_inj T h0 h1 a0 (by omega) (by omega) (by omega) z1
      have w2 := nm_inj T h0 h1 (by omega) (by omega) b0 (by omega) z2
      omega
  suffices i = j from ⟨this, same this⟩
  by_cases e0 : a = 0
  · by_cases e1 : a + 1 = (pr ps i).l
    · -- a pipe of one step
      subst e0
      have x1 : nm ps i 0 = [(pr ps i).x] := nm_0 ps i
      have x2 : nm ps i (0 + 1) = [(pr ps i).y] := by rw [e1, nm_l (by omega)]
      rw [x1, x2] at h
      have ob : b = 0 ∧ b + 1 = (pr ps j).l := by
        rcases h with ⟨z1, z2⟩ | ⟨z1, z2⟩
        · rcases nm_one z1.symm with ⟨w, _⟩ | ⟨w, _⟩ <;> rcases nm_one z2.symm with ⟨u, _⟩ | ⟨u, _⟩ <;> omega
        · rcases nm_one z1.symm with ⟨w, _⟩ | ⟨w, _⟩ <;> rcases nm_one z2.symm with ⟨u, _⟩ | ⟨u, _⟩ <;> omega
      obtain ⟨rfl, ob⟩ := ob
      have y1 : nm ps j 0 = [(pr ps j).x] := nm_0 ps j
      have y2 : nm ps j (0 + 1) = [(pr ps j).y] := by rw [ob, nm_l (by omega)]
      rw [y1, y2] at h
      obtain ⟨p0, p1, p2, p3, _⟩ := T.at h0 h1
      have o1 := (T.own h0 h1).1
      have z0 := T.zero (pr ps i).x
      have d1 : Dn ps d (pr ps i).x (pr ps i).y i.toNat := ⟨_, (pr_mem h0 h1).2, .inr ⟨rfl, by omega⟩⟩
      have d2 : Dn ps d (pr ps i).x (pr ps i).y j.toNat := by
        refine ⟨_, (pr_mem k0 k1).2, ?_⟩
        rcases h with ⟨z1, z2⟩ | ⟨z1, z2⟩
        · have w1 : (pr ps i).x = (pr ps j).x := by simpa using z1
          have w2 : (pr ps i).y = (pr ps j).y := by simpa using z2
          exact .inr ⟨w2.symm, by rw [← w1]; omega⟩
        · have w1 : (pr ps i).x = (pr ps j).y := by simpa using z1
          have w2 : (pr ps i).y = (pr ps j).x := by simpa using z2
          exact .inl ⟨w2.symm, by rw [← w1]; omega⟩
      have := T.uni _ _ _ _ p0 p1 p2 p3 d1 d2
      omega
    · have m : nm ps i (a + 1) = [i, a + 1] := nm_mid (by omega) e1
      rw [m] at h
      rcases h with ⟨_, z⟩ | ⟨_, z⟩
      · exact (nm_two z.symm).1.symm
      · exact (nm_two z.symm).1.symm
  · have m : nm ps i a = [i, a] := nm_mid e0 (by omega)
    rw [m] at h
    rcases h with ⟨z, _⟩ | ⟨z, _⟩
    · exact (nm_two z.symm).1.symm
    · exact (nm_two z.symm).1.symm
theorem not_yet {i k : Int} (h0 : 0 ≤ i) (h1 : i < ps.length) (k0 : 0 ≤ k) (k1 : k < (pr ps i).l) : ¬ AdjTo ps i k (nm ps i k) (nm ps i (k + 1)) := by
  rintro ⟨j, a, j0, h | h, r⟩
  · have z := step_one T h0 h1 k0 k1 j0 (by omega) h.2.1 h.2.2 (r.elim (fun w => .inl w) (fun w => .inr ⟨w.2, w.1⟩))
    omega
  · obtain ⟨rfl, a0, a1⟩ := h
    have z := step_one T h0 h1 k0 k1 h0 h1 a0 (by omega) (r.elim (fun w => .inl w) (fun w => .inr ⟨w.2, w.1⟩))
    omega
theorem AdjTo.sym' {i k : Int} {p q : Pl} (h : AdjTo ps i k p q) : AdjTo ps i k q p := by
  obtain ⟨j, a, h0, h1, r⟩ := h
  exact ⟨j, a, h0, h1, r.symm⟩
theorem nm_next {i k : Int} (h0 : 0 ≤ i) (h1 : i < ps.length) (k0 : 0 ≤ k) (k1 : k < (pr ps i).l) : nm ps i k ≠ nm ps i (k + 1) := fun z => by
  have := nm_inj T h0 h1 k0 (by omega) (by omega) (by omega) z
  omega
end
end Rw

namespace Rw
/-! ### a pipe made longer: distances -/
def setL (ps : List Pi) (i b : Int) : List Pi := ps.set i.toNat { pr ps i with l := (pr ps i).l + b }
theorem setL_len (ps : List Pi) (i b : Int) : (setL ps i b).length = ps.length := by unfold setL; rw [List.length_set]
theorem setL_at {ps : List Pi} {i b : Int} (h0 : 0 ≤ i) (h1 : i < ps.length) : (setL ps i b)[i.toNat]? = some { pr ps i with l := (pr ps i).l + b } := by
  unfold setL; rw [List.getElem?_set_self (by omega)]
theorem setL_ne {ps : List Pi} {i b : Int} {j : Nat} (h : j ≠ i.toNat) : (setL ps i b)[j]? = ps[j]? := by
  unfold setL; rw [List.getElem?_set_ne (Ne.symm h)]
theorem pr_setL {ps : List Pi} {i b j : Int} (h0 : 0 ≤ i) (h1 : i < ps.length) (k0 : 0 ≤ j) (k1 : j < ps.length) : pr (setL ps i b) j = if j = i then { pr ps i with l := (pr ps i).l + b } else pr ps j := by
  by_cases e : j = i
  · subst e
    rw [if_pos rfl]
    have z := pr_of (setL_at (b := b) h0 h1)
    rw [show ((j.toNat : Nat) : Int) = j by omega] at z
    exact z
  · rw [if_neg e]
    have z := pr_of (ps := setL ps i b) (j := j.toNat) (p := pr ps j) (by rw [setL_ne (by omega)]; exact (pr_mem k0 k1).2)
    rw [show ((j.toNat : Nat) : Int) = j by omega] at z
    exact z
/-! which rooms lie beyond the pipe's far end -/
def ysd (ps : List Pi) (d : Int → Int → Int) (i r : Int) : Bool := decide (d r (pr ps i).y < d r (pr ps i).x)
def d2 (ps : List Pi) (d : Int → Int → Int) (i b s t : Int) : Int := d s t + if ysd ps d i s = ysd ps d i t then 0 else b
section
variable {n : Int} {ps : List Pi} {d : Int → Int → Int} {i b : Int} (T : Tm n ps d) (h0 : 0 ≤ i) (h1 : i < ps.length) (hb : 0 ≤ b)
include T h0 h1
theorem ysd_x : ysd ps d i (pr ps i).x = false ∧ ysd ps d i (pr ps i).y = true := by
  obtain ⟨o1, o2, o3⟩ := T.own h0 h1
  have l1 := (T.at h0 h1).2.2.2.2
  have z1 := T.zero (pr ps i).x
  have z2 := T.zero (pr ps i).y
  unfold ysd
  exact ⟨decide_eq_false (by omega), decide_eq_true (by omega)⟩
theorem ysd_t {r : Int} (r0 : 0 ≤ r) (r1 : r < n) (h : ysd ps d i r = true) : d r (pr ps i).x = d r (pr ps i).y + (pr ps i).l := by
  have l1 := (T.at h0 h1).2.2.2.2
  have := of_decide_eq_true h
  have := T.stp h0 h1 r0 r1
  omega
theorem ysd_f {r : Int} (r0 : 0 ≤ r) (r1 : r < n) (h : ysd ps d i r = false) : d r (pr ps i).y = d r (pr ps i).x + (pr ps i).l := by
  have l1 := (T.at h0 h1).2.2.2.2
  have := of_decide_eq_false h
  have := T.stp h0 h1 r0 r1
  omega
theorem ysd_ends {j : Int} (k0 : 0 ≤ j) (k1 : j < ps.length) (ne : j ≠ i) : ysd ps d i (pr ps j).x = ysd ps d i (pr ps j).y := by
  have := T.sd h0 h1 k0 k1 ne
  unfold ysd
  exact decide_eq_decide.mpr (by omega)
theorem ysd_endsN {j : Nat} {p : Pi} (e : ps[j]? = some p) (ne : j ≠ i.toNat) : ysd ps d i p.x = ysd ps d i p.y := by
  have hj : j < ps.length := (List.getElem?_eq_some_iff.mp e).1
  have z := ysd_ends T h0 h1 (j := (j : Int)) (by omega) (by omega) (by omega)
  rw [pr_of e] at z; exact z
include hb
theorem dn_long {s t : Int} (s0 : 0 ≤ s) (s1 : s < n) {j : Nat} : Dn (setL ps i b) (d2 ps d i b) s t j ↔ Dn ps d s t j := by
  by_cases ej : j = i.toNat
  · subst ej
    obtain ⟨yx, yy⟩ := ysd_x T h0 h1
    have l1 := (T.at h0 h1).2.2.2.2
    have key : ((pr ps i).x = t ∧ d2 ps d i b s (pr ps i).y + ((pr ps i).l + b) = d2 ps d i b s t ∨ (pr ps i).y = t ∧ d2 ps d i b s (pr ps i).x + ((pr ps i).l + b) = d2 ps d i b s t) ↔
        ((pr ps i).x = t ∧ d s (pr ps i).y + (pr ps i).l = d s t ∨ (pr ps i).y = t ∧ d s (pr ps i).x + (pr ps i).l = d s t) := by
      unfold d2
      rw [yx, yy]
      cases hs : ysd ps d i s with
      | true =>
        have q := ysd_t T h0 h1 s0 s1 hs
        constructor
        · rintro (⟨rfl, z⟩ | ⟨rfl, z⟩)
          · rw [yx] at z; simp at z; exact .inl ⟨rfl, by omega⟩
          · rw [yy] at z; simp at z; exact .inr ⟨rfl, by omega⟩
        · rintro (⟨rfl, z⟩ | ⟨rfl, z⟩)
          · rw [yx]; simp; exact .inl (by omega)
          · exfalso; omega
      | false =>
        have q := ysd_f T h0 h1 s0 s1 hs
        constructor
        · rintro (⟨rfl, z⟩ | ⟨rfl, z⟩)
          · rw [yx] at z; simp at z; exfalso; omega
          · rw [yy] at z; simp at z; exact .inr ⟨rfl, by omega⟩
        · rintro (⟨rfl, z⟩ | ⟨rfl, z⟩)
          · exfalso; omega
          · rw [yy]; simp; exact .inr (by omega)
    constructor
    · rintro ⟨p, e, h⟩
      rw [setL_at h0 h1] at e
      cases e
      exact ⟨_, (pr_mem h0 h1).2, key.mp h⟩
    · rintro ⟨p, e, h⟩
      rw [(pr_mem h0 h1).2] at e
      cases e
      exact ⟨_, setL_at h0 h1, key.mpr h⟩
  · constructor
    · rintro ⟨p, e, h⟩
      rw [setL_ne ej] at e
      have en := ysd_endsN T h0 h1 e ej
      refine ⟨p, e, ?_⟩
      unfold d2 at h
      rcases h with ⟨rfl, z⟩ | ⟨rfl, z⟩
      · rw [en] at z; exact .inl ⟨rfl, by omega⟩
      · rw [en] at z; exact .inr ⟨rfl, by omega⟩
    · rintro ⟨p, e, h⟩
      have en := ysd_endsN T h0 h1 e ej
      refine ⟨p, by rw [setL_ne ej]; exact e, ?_⟩
      unfold d2
      rcases h with ⟨rfl, z⟩ | ⟨rfl, z⟩
      · rw [en]; exact .inl ⟨rfl, by omega⟩
      · rw [en]; exact .inr ⟨rfl, by omega⟩
theorem Tm.long : Tm n (setL ps i b) (d2 ps d i b) := by
  obtain ⟨yx, yy⟩ := ysd_x T h0 h1
  have hat := T.at h0 h1
  have look : ∀ {j : Nat} {p : Pi}, (setL ps i b)[j]? = some p → (j = i.toNat ∧ p = { pr ps i with l := (pr ps i).l + b }) ∨ (j ≠ i.toNat ∧ ps[j]? = some p) := fun {j p} e => by
    by_cases ej : j = i.toNat
    · subst ej; rw [setL_at h0 h1] at e; exact .inl ⟨rfl, (Option.some.inj e).symm⟩
    · rw [setL_ne ej] at e; exact .inr ⟨ej, e⟩
  have mem : ∀ {p : Pi}, p ∈ setL ps i b → ∃ j, (setL ps i b)[j]? = some p := fun {p} m => by
    obtain ⟨j, hj, e⟩ := List.mem_iff_getElem.mp m
    exact ⟨j, by rw [List.getElem?_eq_getElem hj, e]⟩
  refine ⟨fun p m => ?_, fun s => ?_, fun s t => ?_, fun s t a1 a2 a3 a4 ne => ?_, fun p m s a1 a2 => ?_, fun s t a1 a2 a3 a4 ne => ?_, fun s t j k a1 a2 a3 a4 e1 e2 => ?_, fun j k p q ne e1 e2 => ?_⟩
  · obtain ⟨j, e⟩ := mem m
    rcases look e with ⟨_, rfl⟩ | ⟨_, e⟩
    · exact ⟨hat.1, hat.2.1, hat.2.2.1, hat.2.2.2.1, by show 1 ≤ (pr ps i).l + b; omega⟩
    · exact T.ok p (List.mem_of_getElem? e)
  · unfold d2; rw [if_pos rfl, T.zero]; rfl
  · unfold d2
    rw [T.sym s t]
    by_cases h : ysd ps d i s = ysd ps d i t
    · rw [if_pos h, if_pos h.symm]
    · rw [if_neg h, if_neg (Ne.symm h)]
  · have := T.pos s t a1 a2 a3 a4 ne
    unfold d2; split <;> omega
  · obtain ⟨j, e⟩ := mem m
    rcases look e with ⟨_, rfl⟩ | ⟨ej, e⟩
    · show d2 ps d i b s (pr ps i).x = d2 ps d i b s (pr ps i).y + ((pr ps i).l + b) ∨ d2 ps d i b s (pr ps i).y = d2 ps d i b s (pr ps i).x + ((pr ps i).l + b)
      unfold d2
      rw [yx, yy]
      cases hs : ysd ps d i s with
      | true => have q := ysd_t T h0 h1 a1 a2 hs; simp; omega
      | false => have q := ysd_f T h0 h1 a1 a2 hs; simp; omega
    · have en := ysd_endsN T h0 h1 e ej
      have st := T.step p (List.mem_of_getElem? e) s a1 a2
      unfold d2
      rw [en]; omega
  · obtain ⟨j, hj⟩ := T.par s t a1 a2 a3 a4 ne
    exact ⟨j, (dn_long T h0 h1 hb a1 a2).mpr hj⟩
  · exact T.uni s t j k a1 a2 a3 a4 ((dn_long T h0 h1 hb a1 a2).mp e1) ((dn_long T h0 h1 hb a1 a2).mp e2)
  · rcases look e1 with ⟨j1, rfl⟩ | ⟨j1, f1⟩ <;> rcases look e2 with ⟨k1, rfl⟩ | ⟨k1, f2⟩
    · exact absurd (j1.trans k1.symm) ne
    · have en := ysd_endsN T h0 h1 f2 k1
      have sd := T.side j k _ q ne (by rw [j1]; exact (pr_mem h0 h1).2) f2
      show d2 ps d i b (pr ps i).x q.x - d2 ps d i b (pr ps i).y q.x = d2 ps d i b (pr ps i).x q.y - d2 ps d i b (pr ps i).y q.y
      unfold d2
      rw [en]; omega
    · have en := ysd_endsN T h0 h1 f1 j1
      have sd := T.side j k p _ ne f1 (by rw [k1]; exact (pr_mem h0 h1).2)
      show d2 ps d i b p.x (pr ps i).x - d2 ps d i b p.y (pr ps i).x = d2 ps d i b p.x (pr ps i).y - d2 ps d i b p.y (pr ps i).y
      unfold d2
      rw [en]; omega
    · have en1 := ysd_endsN T h0 h1 f1 j1
      have en2 := ysd_endsN T h0 h1 f2 k1
      have sd := T.side j k p q ne f1 f2
      unfold d2
      rw [en1, en2]; omega
end
/-! the same of places -/
def ysP (ps : List Pi) (d : Int → Int → Int) (i : Int) : Pl → Bool
  | [r] => ysd ps d i r
  | [j, _] => if j = i then false else ysd ps d i (pr ps j).x
  | _ => false
section
variable {n : Int} {ps : List Pi} {d : Int → Int → Int} {i b : Int} (T : Tm n ps d) (h0 : 0 ≤ i) (h1 : i < ps.length) (hb : 0 ≤ b)
include T h0 h1 hb
theorem ok_long {p : Pl} (hp : okP n ps p) : okP n (setL ps i b) p := by
  rcases ok_cases hp with ⟨r, rfl, r0, r1⟩ | ⟨j, a, rfl, k0, k1, a0, a1⟩
  · exact ⟨r0, r1⟩
  · refine ⟨k0, by rw [setL_len]; exact k1, a0, ?_⟩
    rw [pr_setL h0 h1 k0 k1]
    split
    · rename_i e; subst e; show a ≤ (pr ps j).l + b - 1; omega
    · exact a1
theorem dr_long {r j a : Int} (r0 : 0 ≤ r) (r1 : r < n) (k0 : 0 ≤ j) (k1 : j < ps.length) (a0 : 1 ≤ a) (a1 : a ≤ (pr ps j).l - 1) :
    dr (setL ps i b) (d2 ps d i b) r j a = dr ps d r j a + if ysd ps d i r = ysP ps d i [j, a] then 0 else b := by
  obtain ⟨yx, yy⟩ := ysd_x T h0 h1
  unfold dr
  rw [pr_setL h0 h1 k0 k1]
  by_cases e : j = i
  · subst e
    rw [if_pos rfl]
    show min (d2 ps d j b r (pr ps j).x + a) (d2 ps d j b r (pr ps j).y + ((pr ps j).l + b - a)) = _
    show _ = _ + if ysd ps d j r = (if j = j then false else _) then 0 else b
    rw [if_pos rfl]
    unfold d2
    rw [yx, yy]
    cases hs : ysd ps d j r with
    | true => have q := ysd_t T h0 h1 r0 r1 hs; simp; omega
    | false => have q := ysd_f T h0 h1 r0 r1 hs; simp; omega
  · rw [if_neg e]
    have en := ysd_ends T h0 h1 k0 k1 e
    show min (d2 ps d i b r (pr ps j).x + a) (d2 ps d i b r (pr ps j).y + ((pr ps j).l - a)) = _ + if ysd ps d i r = (if j = i then false else ysd ps d i (pr ps j).x) then 0 else b
    rw [if_neg e]
    unfold d2
    rw [en]; omega
theorem Dp_long {p q : Pl} (hp : okP n ps p) (hq : okP n ps q) : Dp (setL ps i b) (d2 ps d i b) p q = Dp ps d p q + if ysP ps d i p = ysP ps d i q then 0 else b := by
  rcases ok_cases hp with ⟨r, rfl, r0, r1⟩ | ⟨j, a, rfl, k0, k1, a0, a1⟩ <;> rcases ok_cases hq with ⟨t, rfl, t0, t1⟩ | ⟨k, c, rfl, m0, m1, c0, c1⟩
  · rfl
  · exact dr_long T h0 h1 hb r0 r1 m0 m1 c0 c1
  · show dr _ _ t j a = dr ps d t j a + _
    rw [dr_long T h0 h1 hb t0 t1 k0 k1 a0 a1]
    show _ + (if ysd ps d i t = _ then 0 else b) = _ + (if _ = ysd ps d i t then 0 else b)
    by_cases z : ysd ps d i t = ysP ps d i [j, a]
    · rw [if_pos z, if_pos z.symm]
    · rw [if_neg z, if_neg (Ne.symm z)]
  · show (if j = k then ab a c else _) = (if j = k then ab a c else _) + _
    by_cases e : j = k
    · subst e
      rw [if_pos rfl, if_pos rfl]
      have z : ysP ps d i [j, a] = ysP ps d i [j, c] := rfl
      rw [if_pos z]; omega
    · rw [if_neg e, if_neg e, pr_setL h0 h1 k0 k1]
      obtain ⟨x0, x1, y0, y1, _⟩ := T.at k0 k1
      obtain ⟨yx, yy⟩ := ysd_x T h0 h1
      by_cases ej : j = i
      · subst ej
        rw [if_pos rfl]
        show min (a + dr _ _ (pr ps j).x k c) ((pr ps j).l + b - a + dr _ _ (pr ps j).y k c) = _
        rw [dr_long T h0 h1 hb x0 x1 m0 m1 c0 c1, dr_long T h0 h1 hb y0 y1 m0 m1 c0 c1, yx, yy]
        have w : ysP ps d j [j, a] = false := if_pos rfl
        rw [w]
        have en := ysd_ends T h0 h1 m0 m1 (Ne.symm e)
        have ek : ysP ps d j [k, c] = ysd ps d j (pr ps k).x := if_neg (Ne.symm e)
        obtain ⟨u0, u1, v0, v1, _⟩ := T.at m0 m1
        have q1 := ysd_t T h0 h1 u0 u1
        have q2 := ysd_f T h0 h1 u0 u1
        have q3 := ysd_t T h0 h1 v0 v1
        have q4 := ysd_f T h0 h1 v0 v1
        have s1 := T.sym (pr ps k).x (pr ps j).x
        have s2 := T.sym (pr ps k).x (pr ps j).y
        have s3 := T.sym (pr ps k).y (pr ps j).x
        have s4 := T.sym (pr ps k).y (pr ps j).y
        rw [ek]
        unfold dr
        cases hk : ysd ps d j (pr ps k).x with
        | true => have w1 := q1 hk; have w2 := q3 (en ▸ hk); simp; omega
        | false => have w1 := q2 hk; have w2 := q4 (en ▸ hk); simp; omega
      · rw [if_neg ej, dr_long T h0 h1 hb x0 x1 m0 m1 c0 c1, dr_long T h0 h1 hb y0 y1 m0 m1 c0 c1]
        have en := ysd_ends T h0 h1 k0 k1 ej
        have w : ysP ps d i [j, a] = ysd ps d i (pr ps j).x := if_neg ej
        rw [w, ← en]; omega
omit hb
/-! beyond: nearer to the far end than to the place ahead of it -/
theorem ysP_near {p : Pl} (hp : okP n ps p) : (ysP ps d i p = true → Dp ps d p (nm ps i ((pr ps i).l - 1)) = Dp ps d p [(pr ps i).y] + 1) ∧ (ysP ps d i p = false → Dp ps d p [(pr ps i).y] = Dp ps d p (nm ps i ((pr ps i).l - 1)) + 1) := by
  obtain ⟨x0, x1, y0, y1, l1⟩ := T.at h0 h1
  rw [← nm_l (ps := ps) (i := i) (by omega)]
  rcases ok_cases hp with ⟨r, rfl, r0, r1⟩ | ⟨j, a, rfl, k0, k1, a0, a1⟩
  · rw [Dp_room T h0 h1 r0 r1, Dp_room T h0 h1 r0 r1]
    unfold dr
    exact ⟨fun h => by have := ysd_t T h0 h1 r0 r1 h; omega, fun h => by have := ysd_f T h0 h1 r0 r1 h; omega⟩
  · by_cases e : j = i
    · subst e
      rw [Dp_same T h0 h1 a0 a1, Dp_same T h0 h1 a0 a1]
      have w : ysP ps d j [j, a] = false := if_pos rfl
      rw [w]
      refine ⟨fun h => (by cases h), fun _ => ?_⟩
      unfold ab; split <;> split <;> omega
    · have w : ysP ps d i [j, a] = ysd ps d i (pr ps j).x := if_neg e
      have en := ysd_ends T h0 h1 k0 k1 e
      obtain ⟨u0, u1, v0, v1, _⟩ := T.at k0 k1
      have q1 := ysd_t T h0 h1 u0 u1
      have q2 := ysd_f T h0 h1 u0 u1
      have q3 := ysd_t T h0 h1 v0 v1
      have q4 := ysd_f T h0 h1 v0 v1
      rw [w, Dp_else T h0 h1 k0 k1 e a0 a1 _ (by omega) (by omega), Dp_else T h0 h1 k0 k1 e a0 a1 _ (by omega) (by omega)]
      unfold dr
      refine ⟨fun h => ?_, fun h => ?_⟩
      · have w1 := q1 h; have w2 := q3 (en ▸ h); split <;> omega
      · have w1 := q2 h; have w2 := q4 (en ▸ h); split <;> omega
end
section
variable {n : Int} {ps : List Pi} {d : Int → Int → Int} (T : Tm n ps d)
include T
/-! a step that lies between two places, seen from both -/
theorem cross {p u w : Pl} (hp : okP n ps p) (hu : okP n ps u) (hw : okP n ps w) (au : Adj ps w u) (e : Dp ps d p w = Dp ps d p u + 1) :
    ∀ (k : Nat) (q : Pl), okP n ps q → (Dp ps d w q).toNat = k → Dp ps d q u = Dp ps d q w + 1 → Dp ps d p q = Dp ps d p u + 1 + Dp ps d w q
  | 0, q, hq, ek, _ => by
    have z := Dp_nn T hw hq
    have := Dp_eq0 T hw hq (by omega)
    subst this
    omega
  | k + 1, q, hq, ek, eq => by
    have z := Dp_nn T hw hq
    have ne : q ≠ w := fun h => by rw [h, Dp_self T hw] at ek; cases ek
    obtain ⟨q1, a1, e1⟩ := Dp_par T hw hq ne
    have h1 := ok_adj T a1
    have s1 := Dp_sym T hq hw
    have s2 := Dp_sym T h1 hw
    have s3 := Dp_sym T hq hu
    have s4 := Dp_sym T h1 hu
    have st := Dp_step T hu a1
    have stw := Dp_step T h1 au
    have z1 := Dp_nn T hw h1
    have eq1 : Dp ps d q1 u = Dp ps d q1 w + 1 := by omega
    have ih := cross hp hu hw au e k q1 h1 (by omega) eq1
    rcases Dp_step T hp a1 with g | g
    · exfalso
      by_cases c : q1 = w
      · subst c
        have := Dp_uni T hp hw a1.symm au g e
        subst this
        rw [Dp_self T hq] at eq
        have := Dp_nn T hq h1
        omega
      · obtain ⟨q2, a2, e2⟩ := Dp_par T hw h1 c
        have h2 := ok_adj T a2
        have s5 := Dp_sym T h2 hw
        have s6 := Dp_sym T h2 hu
        have st2 := Dp_step T hu a2
        have stw2 := Dp_step T h2 au
        have ih2 := cross hp hu hw au e (k - 1) q2 h2 (by have := Dp_nn T hw h2; omega) (by omega)
        have := Dp_uni T hp h1 a1.symm a2 g (by omega)
        subst this
        omega
    · omega
termination_by k => k
end
section
variable {n : Int} {ps : List Pi} {d : Int → Int → Int} {i b : Int} (T : Tm n ps d) (h0 : 0 ≤ i) (h1 : i < ps.length) (hb : 0 ≤ b)
include T h0 h1
theorem ysP_btw {p q : Pl} (hp : okP n ps p) (hq : okP n ps q) : (ysP ps d i p = ysP ps d i q) ↔ ¬ (Btw ps d p q [(pr ps i).y] ∧ Btw ps d p q (nm ps i ((pr ps i).l - 1))) := by
  obtain ⟨x0, x1, y0, y1, l1⟩ := T.at h0 h1
  have hy : okP n ps [(pr ps i).y] := ⟨y0, y1⟩
  have hw : okP n ps (nm ps i ((pr ps i).l - 1)) := ok_nm T h0 h1 (by omega) (by omega)
  have aw : Adj ps (nm ps i ((pr ps i).l - 1)) [(pr ps i).y] := ⟨i, (pr ps i).l - 1, h0, h1, by omega, by omega, .inl ⟨rfl, by rw [show (pr ps i).l - 1 + 1 = (pr ps i).l by omega, nm_l (by omega)]⟩⟩
  have np := ysP_near T h0 h1 hp
  have nq := ysP_near T h0 h1 hq
  have s1 := Dp_sym T hq hy
  have s2 := Dp_sym T hq hw
  have s3 := Dp_sym T hp hy
  have s4 := Dp_sym T hp hw
  have s5 := Dp_sym T hp hq
  unfold Btw
  cases e1 : ysP ps d i p <;> cases e2 : ysP ps d i q
  · have a1 := np.2 e1; have a2 := nq.2 e2
    refine ⟨fun _ h => ?_, fun _ => rfl⟩
    omega
  · have a1 := np.2 e1; have a2 := nq.1 e2
    have c := cross T hp hw hy aw.symm a1 _ q hq rfl a2
    refine ⟨fun h => (by cases h), fun h => absurd ⟨?_, ?_⟩ h⟩ <;> omega
  · have a1 := np.1 e1; have a2 := nq.2 e2
    have c := cross T hp hy hw aw a1 _ q hq rfl a2
    refine ⟨fun h => (by cases h), fun h => absurd ⟨?_, ?_⟩ h⟩ <;> omega
  · have a1 := np.1 e1; have a2 := nq.1 e2
    refine ⟨fun _ h => ?_, fun _ => rfl⟩
    omega
end
end Rw

namespace Rw
/-! ### a pipe halved: places and distances -/
structure Half (ps ps' : List Pi) (n i a : Int) : Prop where
  n0 : 0 ≤ n
  i0 : 0 ≤ i
  i1 : i < ps.length
  a0 : 1 ≤ a
  a1 : a ≤ (pr ps i).l - 1
  len : ps'.length = ps.length + 1
  old : ∀ j : Int, 0 ≤ j → j < ps.length → j ≠ i → pr ps' j = pr ps j
  nx : (pr ps' i).x = (pr ps i).x
  ny : (pr ps' i).y = n
  nl : (pr ps' i).l = a
  fx : (pr ps' ps.length).x = (pr ps i).y
  fy : (pr ps' ps.length).y = n
  fl : (pr ps' ps.length).l = (pr ps i).l - a
def hv (ps : List Pi) (n i a : Int) : Pl → Pl
  | [j, b] => if j = i then (if b < a then [j, b] else if b = a then [n] else [(ps.length : Int), (pr ps i).l - b]) else [j, b]
  | p => p
section
variable {n i a : Int} {ps ps' : List Pi} (S : Half ps ps' n i a)
include S
theorem hv_old {j b : Int} (k0 : 0 ≤ j) (k1 : j < ps.length) (ne : j ≠ i) : hv ps n i a (nm ps j b) = nm ps' j b := by
  unfold nm
  rw [S.old j k0 k1 ne]
  split
  · rfl
  · split
    · rfl
    · show (if j = i then _ else [j, b]) = _
      rw [if_neg ne]
theorem hv_near {b : Int} (b0 : 0 ≤ b) (b1 : b ≤ a) : hv ps n i a (nm ps i b) = nm ps' i b := by
  have a0 := S.a0
  have a1 := S.a1
  by_cases e : b = 0
  · rw [e, nm_0, nm_0, S.nx]; rfl
  · rw [nm_mid e (by omega)]
    show (if i = i then (if b < a then [i, b] else if b = a then [n] else _) else _) = _
    rw [if_pos rfl]
    by_cases c : b < a
    · rw [if_pos c, nm_mid e (by rw [S.nl]; omega)]
    · rw [if_neg c, if_pos (by omega)]
      have z : b = (pr ps' i).l := by rw [S.nl]; omega
      rw [z, nm_l (by rw [S.nl]; omega), S.ny]
theorem hv_far {b : Int} (b0 : a ≤ b) (b1 : b ≤ (pr ps i).l) : hv ps n i a (nm ps i b) = nm ps' ps.length ((pr ps i).l - b) := by
  have a0 := S.a0
  have a1 := S.a1
  have fl := S.fl
  by_cases e : b = (pr ps i).l
  · rw [e, nm_l (by omega), Int.sub_self, nm_0, S.fx]; rfl
  · rw [nm_mid (by omega) e]
    show (if i = i then (if b < a then [i, b] else if b = a then [n] else [(ps.length : Int), (pr ps i).l - b]) else _) = _
    rw [if_pos rfl, if_neg (by omega)]
    by_cases c : b = a
    · rw [if_pos c, c, ← S.fl, nm_l (by omega), S.fy]
    · rw [if_neg c, nm_mid (by omega) (by omega)]
theorem hv_adj {p q : Pl} (h : Adj ps p q) : Adj ps' (hv ps n i a p) (hv ps n i a q) := by
  obtain ⟨j, b, k0, k1, b0, b1, h⟩ := h
  have a0 := S.a0
  have a1 := S.a1
  have i0 := S.i0
  have i1 := S.i1
  have ln := S.len
  have main : Adj ps' (hv ps n i a (nm ps j b)) (hv ps n i a (nm ps j (b + 1))) := by
    by_cases e : j = i
    · subst e
      by_cases c : b < a
      · rw [hv_near S b0 (by omega), hv_near S (by omega) (by omega)]
        exact ⟨j, b, k0, by omega, b0, by rw [S.nl]; exact c, .inl ⟨rfl, rfl⟩⟩
      · rw [hv_far S (by omega) (by omega), hv_far S (by omega) (by omega)]
        exact ⟨ps.length, (pr ps j).l - (b + 1), by omega, by omega, by omega, by rw [S.fl]; omega, .inr ⟨rfl, by rw [show (pr ps j).l - (b + 1) + 1 = (pr ps j).l - b by omega]⟩⟩
    · rw [hv_old S k0 k1 e, hv_old S k0 k1 e]
      exact ⟨j, b, k0, by omega, b0, by rw [S.old j k0 k1 e]; exact b1, .inl ⟨rfl, rfl⟩⟩
  rcases h with ⟨rfl, rfl⟩ | ⟨rfl, rfl⟩
  · exact main
  · exact main.symm
theorem hv_back {P Q : Pl} (h : Adj ps' P Q) : ∃ p q, P = hv ps n i a p ∧ Q = hv ps n i a q ∧ Adj ps p q := by
  obtain ⟨j, b, k0, k1, b0, b1, h⟩ := h
  have a0 := S.a0
  have a1 := S.a1
  have i0 := S.i0
  have i1 := S.i1
  have ln := S.len
  have main : ∃ p q, nm ps' j b = hv ps n i a p ∧ nm ps' j (b + 1) = hv ps n i a q ∧ Adj ps p q := by
    by_cases e : j = i
    · subst e
      rw [S.nl] at b1
      exact ⟨nm ps j b, nm ps j (b + 1), (hv_near S b0 (by omega)).symm, (hv_near S (by omega) (by omega)).symm, j, b, k0, i1, b0, by omega, .inl ⟨rfl, rfl⟩⟩
    · by_cases f : j = ps.length
      · subst f
        rw [S.fl] at b1
        have e1 := hv_far S (b := (pr ps i).l - b) (by omega) (by omega)
        have e2 := hv_far S (b := (pr ps i).l - (b + 1)) (by omega) (by omega)
        rw [show (pr ps i).l - ((pr ps i).l - b) = b by omega] at e1
        rw [show (pr ps i).l - ((pr ps i).l - (b + 1)) = b + 1 by omega] at e2
        exact ⟨_, _, e1.symm, e2.symm, i, (pr ps i).l - (b + 1), i0, i1, by omega, by omega, .inr ⟨rfl, by rw [show (pr ps i).l - (b + 1) + 1 = (pr ps i).l - b by omega]⟩⟩
      · rw [S.old j k0 (by omega) e] at b1
        exact ⟨nm ps j b, nm ps j (b + 1), (hv_old S k0 (by omega) e).symm, (hv_old S k0 (by omega) e).symm, j, b, k0, by omega, b0, b1, .inl ⟨rfl, rfl⟩⟩
  obtain ⟨p, q, e1, e2, ad⟩ := main
  rcases h with ⟨rfl, rfl⟩ | ⟨rfl, rfl⟩
  · exact ⟨p, q, e1, e2, ad⟩
  · exact ⟨q, p, e2, e1, ad.symm⟩
theorem hv_ok {p : Pl} (hp : okP n ps p) : okP (n + 1) ps' (hv ps n i a p) := by
  have a0 := S.a0
  have a1 := S.a1
  have i0 := S.i0
  have i1 := S.i1
  have ln := S.len
  rcases ok_cases hp with ⟨r, rfl, r0, r1⟩ | ⟨j, b, rfl, k0, k1, b0, b1⟩
  · exact ⟨r0, by omega⟩
  · show okP (n + 1) ps' (if j = i then (if b < a then [j, b] else if b = a then [n] else [(ps.length : Int), (pr ps i).l - b]) else [j, b])
    by_cases e : j = i
    · subst e
      rw [if_pos rfl]
      by_cases c : b < a
      · rw [if_pos c]; exact ⟨k0, by omega, b0, by rw [S.nl]; omega⟩
      · rw [if_neg c]
        by_cases f : b = a
        · rw [if_pos f]
          exact ⟨S.n0, by omega⟩
        · rw [if_neg f]; exact ⟨by omega, by omega, by omega, by rw [S.fl]; omega⟩
    · rw [if_neg e]; exact ⟨k0, by omega, b0, by rw [S.old j k0 k1 e]; exact b1⟩
theorem hv_inj {p q : Pl} (hp : okP n ps p) (hq : okP n ps q) (h : hv ps n i a p = hv ps n i a q) : p = q := by
  have a0 := S.a0
  have a1 := S.a1
  have i1 := S.i1
  have two : ∀ {j b : Int}, 1 ≤ b → b ≤ (pr ps j).l - 1 → j < ps.length → hv ps n i a [j, b] = [j, b] ∧ (j ≠ i ∨ b < a) ∨ (j = i ∧ b = a ∧ hv ps n i a [j, b] = [n]) ∨ (j = i ∧ a < b ∧ hv ps n i a [j, b] = [(ps.length : Int), (pr ps i).l - b]) := fun {j b} b0 b1 jl => by
    show (if j = i then (if b < a then [j, b] else if b = a then [n] else [(ps.length : Int), (pr ps i).l - b]) else [j, b]) = [j, b] ∧ _ ∨ (j = i ∧ b = a ∧ (if j = i then (if b < a then [j, b] else if b = a then [n] else [(ps.length : Int), (pr ps i).l - b]) else [j, b]) = [n]) ∨ (j = i ∧ a < b ∧ (if j = i then (if b < a then [j, b] else if b = a then [n] else [(ps.length : Int), (pr ps i).l - b]) else [j, b]) = _)
    by_cases e : j = i
    · rw [if_pos e]
      by_cases c : b < a
      · rw [if_pos c]; exact .inl ⟨rfl, .inr c⟩
      · rw [if_neg c]
        by_cases f : b = a
        · rw [if_pos f]; exact .inr (.inl ⟨e, f, rfl⟩)
        · rw [if_neg f]; exact .inr (.inr ⟨e, by omega, rfl⟩)
    · rw [if_neg e]; exact .inl ⟨rfl, .inl e⟩
  rcases ok_cases hp with ⟨r, rfl, r0, r1⟩ | ⟨j, b, rfl, k0, k1, b0, b1⟩ <;> rcases ok_cases hq with ⟨t, rfl, t0, t1⟩ | ⟨k, c, rfl, m0, m1, c0, c1⟩
  · exact h
  · have h' : [r] = hv ps n i a [k, c] := h
    rcases two c0 c1 m1 with ⟨e, _⟩ | ⟨_, _, e⟩ | ⟨_, _, e⟩
    · rw [e] at h'; cases h'
    · rw [e] at h'
      have : r = n := by simpa using h'
      omega
    · rw [e] at h'; cases h'
  · have h' : hv ps n i a [j, b] = [t] := h
    rcases two b0 b1 k1 with ⟨e, _⟩ | ⟨_, _, e⟩ | ⟨_, _, e⟩
    · rw [e] at h'; cases h'
    · rw [e] at h'
      have : n = t := by simpa using h'
      omega
    · rw [e] at h'; cases h'
  · rcases two b0 b1 k1 with ⟨e, g⟩ | ⟨e1, e2, e⟩ | ⟨e1, e2, e⟩ <;> rcases two c0 c1 m1 with ⟨f, g'⟩ | ⟨f1, f2, f⟩ | ⟨f1, f2, f⟩ <;> rw [e, f] at h
    · exact h
    · cases h
    · have z : j = ps.length ∧ b = (pr ps i).l - c := by simpa using h
      omega
    · cases h
    · rw [e1, f1, e2, f2]
    · cases h
    · have z : (ps.length : Int) = k ∧ (pr ps i).l - b = c := by simpa using h
      omega
    · cases h
    · have z : (pr ps i).l - b = (pr ps i).l - c := by simpa using h
      rw [e1, f1, show b = c by omega]
theorem hv_le1 {d d' : Int → Int → Int} (T : Tm n ps d) (T' : Tm (n + 1) ps' d') {s : Pl} (hs : okP n ps s) : ∀ (k : Nat) (v : Pl), okP n ps v → (Dp ps d s v).toNat = k → Dp ps' d' (hv ps n i a s) (hv ps n i a v) ≤ Dp ps d s v
  | 0, v, hv', ek => by
    have z := Dp_nn T hs hv'
    have e := Dp_eq0 T hs hv' (by omega)
    subst e
    rw [Dp_self T' (hv_ok S hs)]; exact z
  | k + 1, v, hv', ek => by
    have ne : v ≠ s := fun z => by rw [z, Dp_self T hs] at ek; cases ek
    obtain ⟨u, au, eu⟩ := Dp_par T hs hv' ne
    have hu := ok_adj T au
    have ih := hv_le1 T T' hs k u hu (by have := Dp_nn T hs hu; omega)
    have st := Dp_step T' (hv_ok S hs) (hv_adj S au)
    omega
theorem hv_le2 {d d' : Int → Int → Int} (T : Tm n ps d) (T' : Tm (n + 1) ps' d') {s : Pl} (hs : okP n ps s) : ∀ (k : Nat) (v : Pl), okP n ps v → (Dp ps' d' (hv ps n i a s) (hv ps n i a v)).toNat = k → Dp ps d s v ≤ Dp ps' d' (hv ps n i a s) (hv ps n i a v)
  | 0, v, hv', ek => by
    have z := Dp_nn T' (hv_ok S hs) (hv_ok S hv')
    have e := hv_inj S hs hv' (Dp_eq0 T' (hv_ok S hs) (hv_ok S hv') (by omega))
    subst e
    rw [Dp_self T hs]; exact z
  | k + 1, v, hv', ek => by
    have ne : hv ps n i a v ≠ hv ps n i a s := fun z => by rw [z, Dp_self T' (hv_ok S hs)] at ek; cases ek
    obtain ⟨w, aw, ew⟩ := Dp_par T' (hv_ok S hs) (hv_ok S hv') ne
    obtain ⟨p, u, ep, eu, au⟩ := hv_back S aw
    have hp := ok_adj T au.symm
    have hu := ok_adj T au
    have e := hv_inj S hv' hp ep
    subst e
    subst eu
    have ih := hv_le2 T T' hs k u hu (by have := Dp_nn T' (hv_ok S hs) (hv_ok S hu); omega)
    have st := Dp_step T hs au
    omega
theorem hv_iso {d d' : Int → Int → Int} (T : Tm n ps d) (T' : Tm (n + 1) ps' d') {s v : Pl} (hs : okP n ps s) (hv' : okP n ps v) : Dp ps' d' (hv ps n i a s) (hv ps n i a v) = Dp ps d s v := by
  have h1 := hv_le1 S T T' hs _ v hv' rfl
  have h2 := hv_le2 S T T' hs _ v hv' rfl
  omega
end
end Rw

namespace Rw
open PySem PySem.Spec PyProof.Rows L2
theorem walk_enumT {K : PySem.W.Frag} {a : Addr} {xs : List V} : Walk (IteT K a) xs.length (fun H => SqT K H a xs) (YPair (fun i => some (.int (i : Nat))) (fun i => xs[i]?)) := by
  refine ⟨fun i _ hi q => ⟨xs, xs[i], q, by simp [hi]⟩, fun _ q => ⟨xs, q, Nat.le_refl _⟩, fun i H v H' _ q y => ?_⟩
  obtain ⟨T, x, z1, z2, z3, z4⟩ := y
  exact ⟨T, _, x, z1, z2, z3, rfl, z4 xs q⟩
theorem Keep.fr {H J : Hp} {p : Addr} (k : Keep [] H J) (n : J p = none) : H p = none := by
  cases e : H p with
  | none => rfl
  | some o => rw [k p o e List.not_mem_nil] at n; cases n
/-! a house, as the program is given it -/
structure HouseOk (n : Int) (ps : List Pi) : Prop where
  n1 : 1 ≤ n
  n2 : n ≤ 16
  len : (ps.length : Int) = n - 1
  ok : ∀ p ∈ ps, p.ok n
theorem HouseOk.at {n : Int} {ps : List Pi} (h : HouseOk n ps) {i : Nat} (hi : i < ps.length) : (pr ps (i : Int)).ok n ∧ ps[i]? = some (pr ps (i : Int)) := by
  have e := pr_mem (ps := ps) (i := (i : Int)) (by omega) (by omega)
  exact ⟨h.ok _ e.1, by rw [show ((i : Int)).toNat = i by omega] at e; exact e.2⟩
/-! ### the doors of each room -/
def doorRow (ps : List Pi) (r : Int) (j : Nat) : List (List Int) :=
  (if (pr ps (j : Int)).x = r then [[(j : Int), 0, (pr ps (j : Int)).y, (pr ps (j : Int)).l]] else []) ++ (if (pr ps (j : Int)).y = r then [[(j : Int), (pr ps (j : Int)).l, (pr ps (j : Int)).x, 0]] else [])
def doorsTo (ps : List Pi) (r : Int) (i : Nat) : List (List Int) := (List.range i).flatMap (doorRow ps r)
theorem doorsTo_succ (ps : List Pi) (r : Int) (i : Nat) : doorsTo ps r (i + 1) = doorsTo ps r i ++ doorRow ps r i := by
  unfold doorsTo
  rw [List.range_succ, List.flatMap_append]
  simp
/-! lists of rows of ints, each at its own address -/
def Rws (av : List Addr) (G : Hp) (ds : List Addr) (f : Nat → List (List Int)) (m : Nat) : Prop := ∀ (r : Nat) (a : Addr), ds[r]? = some a → ∃ ts, G a = some (.lst ts) ∧ Dts av G ts ((f r).map tupI) ∧ ts.length ≤ m
theorem Rws.new {av : List Addr} {G : Hp} {ds : List Addr} {f : Nat → List (List Int)} {m : Nat} {p : Addr} {o : HO} (h : Rws av G ds f m) (n : G p = none) : Rws av (upd G p o) ds f m := fun r a e => by
  obtain ⟨ts, h1, h2, h3⟩ := h r a e
  exact ⟨ts, by rw [upd_ne (ne_of_none h1 n)]; exact h1, h2.keep (Keep.new n), h3⟩
theorem Rws.less {av av' : List Addr} {G : Hp} {ds : List Addr} {f : Nat → List (List Int)} {m : Nat} (h : Rws av G ds f m) (s : ∀ a ∈ av', a ∈ av) : Rws av' G ds f m := fun r a e => by
  obtain ⟨ts, h1, h2, h3⟩ := h r a e
  exact ⟨ts, h1, h2.less s, h3⟩
theorem nodup_at {ds : List Addr} (nd : ds.Nodup) {r s : Nat} {a : Addr} (h : ds[r]? = some a) (h' : ds[s]? = some a) : r = s := by
  obtain ⟨h1, e1⟩ := List.getElem?_eq_some_iff.mp h
  obtain ⟨h2, e2⟩ := List.getElem?_eq_some_iff.mp h'
  exact (List.getElem_inj nd).mp (e1.trans e2.symm)
theorem dts_ints {av : List Addr} {H : Hp} (ns : List Int) : Dts av H (ns.map V.int) (ns.map PyData.int) := Dts.ints ns
theorem Rws.put {av : List Addr} {G : Hp} {ds : List Addr} {f : Nat → List (List Int)} {m : Nat} (h : Rws av G ds f m) (sub : ∀ a ∈ ds, a ∈ av) (nd : ds.Nodup) (tr : Tr av G) {r0 : Nat} {a0 t : Addr} {ts0 : List V} {ns : List Int} (e0 : ds[r0]? = some a0) (g0 : G a0 = some (.lst ts0)) (nt : G t = none) :
    Rws av (upd (upd G t (.tup (ns.map V.int))) a0 (.lst (ts0 ++ [.ref t]))) ds (fun r => if r = r0 then f r ++ [ns] else f r) (m + 1) := fun r a e => by
  have m0 : a0 ∈ av := sub a0 (List.mem_of_getElem? e0)
  obtain ⟨ts, h1, h2, h3⟩ := h r a e
  have h2' : Dts av (upd (upd G t (.tup (ns.map V.int))) a0 (.lst (ts0 ++ [.ref t]))) ts ((f r).map tupI) := (h2.keep (Keep.new nt)).keep (Keep.put m0)
  by_cases c : r = r0
  · subst c
    rw [e] at e0; cases e0
    rw [h1] at g0; cases g0
    refine ⟨ts0 ++ [.ref t], upd_same, ?_, by rw [List.length_append, List.length_singleton]; omega⟩
    show Dts _ _ _ (List.map tupI (if r = r then f r ++ [ns] else f r))
    rw [if_pos rfl, List.map_append]
    have nta : t ≠ a0 := (ne_of_none h1 nt).symm
    exact Dts.app h2' (.cons (.tup (tr.not nt) (by rw [upd_ne nta]; exact upd_same) (Dts.ints ns)) .nil)
  · have ne : a ≠ a0 := fun z => by subst z; exact c (nodup_at nd e e0)
    refine ⟨ts, by rw [upd_ne ne, upd_ne (ne_of_none h1 nt)]; exact h1, ?_, by omega⟩
    show Dts _ _ _ (List.map tupI (if r = r0 then f r ++ [ns] else f r))
    rw [if_neg c]; exact h2'
section
variable {P : Program} {w : World} {K : PySem.W.Frag} {mg : Str → Option Value} {base : Heap}
abbrev sDoors : Stmt := topS 36
abbrev nDoors : List Str := ["house", "rooms", "pipes", "room", "doors", "number", "pipe", "one", "other", "length"]
theorem scDoors : FnScope nDoors ["house"] (defScope sDoors) := ⟨rfl, rfl, rfl, by decide +kernel, rfl, by decide +kernel, by decide +kernel⟩
def spDoors : Sp := fun vs H Q _ => ∃ (h : V) (n : Int) (ps : List Pi) (av : List Addr), vs = [h] ∧ Dt av H h (houseD n (ps.map Pi.dat)) ∧ HouseOk n ps ∧ Tr av H ∧
  ∀ (H' : Hp) (Dl : Addr) (ds : List Addr), Keep [] H H' → H Dl = none → Dl ∉ av → (∀ a ∈ ds, a ∉ av) → Tr av H' → H' Dl = some (.lst (ds.map V.ref)) → (ds.length : Int) = n → Rws av H' ds (fun r => doorsTo ps (r : Int) ps.length) 100 → Q (.ref Dl) H'
theorem ok_doors (h : Has K mg "doors_of" sDoors) (B : Blt mg) : Can P w K mg base "doors_of" ["house"] 1 spDoors := by
  obtain ⟨f, fd, F, g⟩ := h
  refine ⟨f, fd, F.ok (k := 0) scDoors (fun vs H Q E h => ?_) (fun cdv A outer s H vs Q E hr h => ?_), g, F.kp, F.binds fun _ _ _ _ _ _ us hl => match us, hl with | [_], _ => rfl⟩
  · obtain ⟨h, n, ps, av, rfl, _⟩ := h
    rfl
  · obtain ⟨h, n, ps, av, rfl, hh, hk, tr, q⟩ := h
    have n1 := hk.n1
    have n2 := hk.n2
    have ln := hk.len
    refine ⟨_, pss_cons (ps_asg (pv 0) (pg_tup (by rfl) (pgs_cons (pg_name (i := 1) scDoors.nd rfl (by first | exact Or.inl rfl | exact Or.inr rfl)) (pgs_cons (pg_name (i := 2) scDoors.nd rfl (by first | exact Or.inl rfl | exact Or.inr rfl)) pgs_nil))))
      (pss_cons (ps_setLc (i := 4) (own := [("room", 3)]) (g := gName 3) (tt := tYes) rfl scDoors.nd rfl rfl (sw_true rfl rfl rfl (by decide +kernel)) (pi_range1 (by rfl) B.range_ (pa_cons (pv 1) pa_nil)) (blkOk_by (N := nDoors) (sc := defScope sDoors) (by decide +kernel)) (fun _ _ _ _ _ => (pg_name (i := 3) scDoors.nd rfl (by first | exact Or.inl rfl | exact Or.inr rfl))) (fun _ _ _ _ _ => pts_nil) (fun _ _ _ _ _ => (pe_lst pa_nil)))
      (pss_cons (ps_for PassesOwn.never rfl (pi_enumT (by rfl) B.enum_ (pa_cons (pv 2) pa_nil)) (pg_tup (by rfl) (pgs_cons (pg_name (i := 5) scDoors.nd rfl (by first | exact Or.inl rfl | exact Or.inr rfl)) (pgs_cons (pg_name (i := 6) scDoors.nd rfl (by first | exact Or.inl rfl | exact Or.inr rfl)) pgs_nil)))
      (pss_cons (ps_asg (pe_slice sl_tup (pv 6) po_none (po_some pe_int)) (pg_tup (by rfl) (pgs_cons (pg_name (i := 7) scDoors.nd rfl (by first | exact Or.inl rfl | exact Or.inr rfl)) (pgs_cons (pg_name (i := 8) scDoors.nd rfl (by first | exact Or.inl rfl | exact Or.inr rfl)) (pgs_cons (pg_name (i := 9) scDoors.nd rfl (by first | exact Or.inl rfl | exact Or.inr rfl)) pgs_nil)))))
      (pss_cons (ps_expr (pe_bm PySem.F.plainAttrs_list PySem.F.slot_list_append PySem.F.type_list_append mt_append (pe_ix ix_list (pv 4) (pv 7) (fun _ _ => rfl)) (pa_cons (pe_tup (pa_cons (pv 5) (pa_cons pe_int (pa_cons (pv 8) (pa_cons (pv 9) pa_nil))))) pa_nil)))
      (pss_one (ps_expr (pe_bm PySem.F.plainAttrs_list PySem.F.slot_list_append PySem.F.type_list_append mt_append (pe_ix ix_list (pv 4) (pv 8) (fun _ _ => rfl)) (pa_cons (pe_tup (pa_cons (pv 5) (pa_cons (pv 9) (pa_cons (pv 7) (pa_cons pe_int pa_nil))))) pa_nil)))))))
      (pss_one (ps_ret (pv 4))))), ?_⟩
    obtain ⟨ah, ap, xp, rfl, na, ea, nb, eb, db⟩ := house_parts hh
    refine ⟨.ref ah, rfl, ah, [.int n, .ref ap], rfl, SqT.of ea, rfl, _, _, rfl, _, [], rfl, rfl, ?_⟩
    -- a list of empty lists
    refine ⟨.int n, rfl, n, rfl, by omega, by omega, fun Dl nD => ?_⟩
    refine lc_range (lo := 0) (n := n.toNat) (fun i J => Keep [] H J ∧ ∃ ds : List Addr, ds.length = i ∧ ds.Nodup ∧ (∀ a ∈ ds, H a = none ∧ J a = some (.lst [])) ∧ Dl ∉ ds ∧ J Dl = some (.lst (ds.map V.ref)))
      ⟨Keep.new nD, [], rfl, List.nodup_nil, fun _ z => absurd z List.not_mem_nil, List.not_mem_nil, upd_same⟩ (fun i J hi p => ?_) (fun J p => ?_)
    · obtain ⟨k1, ds, l1, nd, al, nl, eD⟩ := p
      refine ⟨rfl, show 0 ≤ sizeLine by decide, fun p np => ⟨ds.map V.ref, ?_, ?_, ?_, ds ++ [p], ?_, ?_, ?_, ?_, ?_⟩⟩
      · rw [upd_ne (ne_of_none eD np)]; exact eD
      · rw [List.length_map, l1]; exact small1000 (by omega)
      · exact (k1.trans (Keep.new np)).upd nD
      · rw [List.length_append, l1]; rfl
      · refine List.nodup_append.mpr ⟨nd, by simp, fun a ha b hb e => ?_⟩
        rw [List.mem_singleton.mp hb] at e
        rw [e] at ha
        rw [(al p ha).2] at np; cases np
      · intro a ha
        have npD : p ≠ Dl := (ne_of_none eD np).symm
        rcases List.mem_append.mp ha with ha | ha
        · have e := al a ha
          have na' : a ≠ Dl := fun z => nl (z ▸ ha)
          exact ⟨e.1, by rw [upd_ne na', upd_ne (ne_of_none e.2 np)]; exact e.2⟩
        · rw [List.mem_singleton.mp ha]
          exact ⟨k1.fr np, by rw [upd_ne npD]; exact upd_same⟩
      · intro m
        rcases List.mem_append.mp m with m | m
        · exact nl m
        · exact (ne_of_none eD np) (List.mem_singleton.mp m)
      · rw [upd_same, List.map_append]; rfl
    · obtain ⟨k1, ds, l1, nd, al, nl, eD⟩ := p
      have fD : H Dl = none := nD
      have trJ : Tr (Dl :: ds ++ av) J := fun a m => by
        rcases List.mem_append.mp m with m | m
        · rcases List.mem_cons.mp m with m | m
          · rw [m]; exact ⟨_, eD⟩
          · exact ⟨_, (al a m).2⟩
        · obtain ⟨o, e⟩ := tr a m
          exact ⟨o, k1 a o e List.not_mem_nil⟩
      have ebJ := k1 ap _ eb List.not_mem_nil
      refine ⟨.ref ap, rfl, ap, xp, rfl, SqT.of ebJ, for_it (walk_enumT (K := K) (a := ap) (xs := xp))
        (fun i σ G => ∃ s3 s5 s6 s7 s8 s9, σ = [some (.ref ah), some (.int n), some (.ref ap), s3, some (.ref Dl), s5, s6, s7, s8, s9] ∧ Keep [] H G ∧ Tr (Dl :: ds ++ av) G ∧ G Dl = some (.lst (ds.map V.ref)) ∧ Rws (Dl :: ds ++ av) G ds (fun r => doorsTo ps (r : Int) i) (2 * i))
        ⟨_, _, _, _, _, _, rfl, k1, trJ, eD, fun r a e => ⟨[], (al a (List.mem_of_getElem? e)).2, .nil, Nat.zero_le _⟩⟩ (fun i σ G _ p => ?_) (fun i x σ G G' hi p y => ?_) (fun σ G p => ?_)⟩
      · obtain ⟨_, _, _, _, _, _, _, kG, _⟩ := p
        exact SqT.of (kG ap _ eb List.not_mem_nil)
      · obtain ⟨s3, s5, s6, s7, s8, s9, rfl, kG, tG, eG, rG⟩ := p
        obtain ⟨T0, x1, y1, rfl, nT, rfl, hx1, hy1⟩ := y
        cases hx1
        have xl : xp.length = ps.length := by rw [db.len, List.length_map]
        have hi' : i < ps.length := by omega
        obtain ⟨pok, pg⟩ := hk.at hi'
        have dbG := db.keep (kG.of)
        obtain ⟨pp, pa, T1, T2, _, gp, ga, epa⟩ := pi_at dbG (i := (i : Int)) (by omega) (by omega)
        have epp : pp = pr ps (i : Int) := by
          rw [show ((i : Int)).toNat = i by omega, pg] at gp
          exact (Option.some.inj gp).symm
        subst epp
        have ey1 : y1 = .ref pa := by
          have w : atI xp (i : Int) = some y1 := atI_nat hy1
          rw [w] at ga; exact Option.some.inj ga
        subst ey1
        obtain ⟨X, hX⟩ : ∃ X, (pr ps (i : Int)).x = X := ⟨_, rfl⟩
        obtain ⟨Y, hY⟩ : ∃ X, (pr ps (i : Int)).y = X := ⟨_, rfl⟩
        obtain ⟨L, hL⟩ : ∃ X, (pr ps (i : Int)).l = X := ⟨_, rfl⟩
        have p1 := pok.x0; have p2 := pok.x1; have p3 := pok.y0; have p4 := pok.y1; have p5 := pok.xy
        rw [hX] at p1 p2 p5; rw [hY] at p3 p4 p5
        rw [hX, hY, hL] at epa
        refine ⟨T0, [.int (i : Nat), .ref pa], rfl, SqT.of upd_same, rfl, _, _, rfl, _, [], rfl, rfl, ?_⟩
        have npa : pa ≠ T0 := ne_of_none epa nT
        refine ⟨.ref pa, rfl, 3, rfl, pa, [.int X, .int Y, .int L, .ref T1, .ref T2], rfl, SqT.of (show (upd G T0 _) pa = _ by rw [upd_ne npa]; exact epa), show ¬ (HT.sIx 5 0 none = 0 ∧ HT.sIx 5 5 (some 3) = 5) by decide +kernel, fun T3 nT3 => ?_⟩
        refine ⟨T3, [.int X, .int Y, .int L], rfl, SqT.of (upd_same.trans (congrArg some (congrArg HO.tup (cut_to _ 3)))), rfl, _, _, rfl, _, _, rfl, _, [], rfl, rfl, ?_⟩
        rw [show cutV [V.int X, .int Y, .int L, .ref T1, .ref T2] none (some 3) = [.int X, .int Y, .int L] from cut_to _ 3]
        have kJ : Keep [] H (upd (upd G T0 (.tup [.int (i : Nat), .ref pa])) T3 (.tup [.int X, .int Y, .int L])) := kG.trans ((Keep.new nT).trans (Keep.new nT3))
        have tJ : Tr (Dl :: ds ++ av) (upd (upd G T0 (.tup [.int (i : Nat), .ref pa])) T3 (.tup [.int X, .int Y, .int L])) := (tG.upd).upd
        have eJ : (upd (upd G T0 (.tup [.int (i : Nat), .ref pa])) T3 (.tup [.int X, .int Y, .int L])) Dl = some (.lst (ds.map V.ref)) := Keep.new (av := []) nT3 _ _ (Keep.new (av := []) nT _ _ eG List.not_mem_nil) List.not_mem_nil
        have rJ := (rG.new (o := .tup [.int (i : Nat), .ref pa]) nT).new (o := .tup [.int X, .int Y, .int L]) nT3
        generalize upd (upd G T0 (.tup [.int (i : Nat), .ref pa])) T3 (.tup [.int X, .int Y, .int L]) = J2 at kJ tJ eJ rJ ⊢
        have dl : ds.length = n.toNat := l1
        obtain ⟨a, ga⟩ : ∃ a, ds[X.toNat]? = some a := ⟨_, List.getElem?_eq_getElem (by omega)⟩
        obtain ⟨b, gb⟩ : ∃ b, ds[Y.toNat]? = some b := ⟨_, List.getElem?_eq_getElem (by omega)⟩
        obtain ⟨ts, e1, e2, e3⟩ := rJ X.toNat a ga
        have sub : ∀ z ∈ ds, z ∈ Dl :: ds ++ av := fun z m => List.mem_append_left _ (List.mem_cons_of_mem _ m)
        have aD : a ≠ Dl := fun z => nl (z ▸ List.mem_of_getElem? ga)
        have bD : b ≠ Dl := fun z => nl (z ▸ List.mem_of_getElem? gb)
        refine ⟨.ref Dl, rfl, .int X, rfl, Dl, _, X, .ref a, rfl, rfl, SqL.of eJ, atI_of p1 (by rw [List.getElem?_map, ga]; rfl), .inl ⟨rfl, _, SqL.of e1⟩, .int (i : Nat), rfl, .int Y, rfl, .int L, rfl, show 4 ≤ sizeLine by decide, fun t nt => ?_⟩
        have at1 : (upd J2 t (.tup [.int (i : Nat), .int 0, .int Y, .int L])) a = some (.lst ts) := by rw [upd_ne (ne_of_none e1 nt)]; exact e1
        refine ⟨a, ts, .ref t, rfl, rfl, at1, Nat.lt_of_le_of_lt e3 (small1000 (by omega)), ?_⟩
        have rK := rJ.put sub nd tJ (ns := [(i : Int), 0, Y, L]) ga e1 nt
        have ha : H a = none := (al a (List.mem_of_getElem? ga)).1
        have hb : H b = none := (al b (List.mem_of_getElem? gb)).1
        have kK : Keep [] H (upd (upd J2 t (.tup [.int (i : Nat), .int 0, .int Y, .int L])) a (.lst (ts ++ [.ref t]))) := (kJ.trans (Keep.new nt)).upd ha
        have tK : Tr (Dl :: ds ++ av) (upd (upd J2 t (.tup [.int (i : Nat), .int 0, .int Y, .int L])) a (.lst (ts ++ [.ref t]))) := (tJ.upd).upd
        have eK : (upd (upd J2 t (.tup [.int (i : Nat), .int 0, .int Y, .int L])) a (.lst (ts ++ [.ref t]))) Dl = some (.lst (ds.map V.ref)) := by
          rw [upd_ne aD.symm, upd_ne (ne_of_none eJ nt)]; exact eJ
        have rK' : Rws (Dl :: ds ++ av) (upd (upd J2 t (.tup [.int (i : Nat), .int 0, .int Y, .int L])) a (.lst (ts ++ [.ref t]))) ds (fun r => if r = X.toNat then doorsTo ps (r : Int) i ++ [[(i : Int), 0, Y, L]] else doorsTo ps (r : Int) i) (2 * i + 1) := rK
        generalize upd (upd J2 t (.tup [.int (i : Nat), .int 0, .int Y, .int L])) a (.lst (ts ++ [.ref t])) = J3 at kK tK eK rK' ⊢
        obtain ⟨us, f1, f2, f3⟩ := rK' Y.toNat b gb
        refine ⟨.ref Dl, rfl, .int Y, rfl, Dl, _, Y, .ref b, rfl, rfl, SqL.of eK, atI_of p3 (by rw [List.getElem?_map, gb]; rfl), .inl ⟨rfl, _, SqL.of f1⟩, .int (i : Nat), rfl, .int L, rfl, .int X, rfl, show 4 ≤ sizeLine by decide, fun u nu => ?_⟩
        have at2 : (upd J3 u (.tup [.int (i : Nat), .int L, .int X, .int 0])) b = some (.lst us) := by rw [upd_ne (ne_of_none f1 nu)]; exact f1
        refine ⟨b, us, .ref u, rfl, rfl, at2, Nat.lt_of_le_of_lt f3 (small1000 (by omega)), ?_⟩
        have rM := rK'.put sub nd tK (ns := [(i : Int), L, X, 0]) gb f1 nu
        refine ⟨_, _, _, _, _, _, rfl, (kK.trans (Keep.new nu)).upd hb, (tK.upd).upd, ?_, fun r z gz => ?_⟩
        · rw [upd_ne bD.symm, upd_ne (ne_of_none eK nu)]; exact eK
        · obtain ⟨vs, v1, v2, v3⟩ := rM r z gz
          refine ⟨vs, v1, ?_, by omega⟩
          have er : (if r = Y.toNat then (if r = X.toNat then doorsTo ps (r : Int) i ++ [[(i : Int), 0, Y, L]] else doorsTo ps (r : Int) i) ++ [[(i : Int), L, X, 0]] else (if r = X.toNat then doorsTo ps (r : Int) i ++ [[(i : Int), 0, Y, L]] else doorsTo ps (r : Int) i)) = doorsTo ps (r : Int) (i + 1) := by
            rw [doorsTo_succ]
            unfold doorRow
            rw [hX, hY, hL]
            by_cases c1 : r = X.toNat
            · have c2 : ¬ r = Y.toNat := by omega
              rw [if_neg c2, if_pos c1, if_pos (show X = (r : Int) by omega), if_neg (show ¬ Y = (r : Int) by omega)]; simp
            · by_cases c2 : r = Y.toNat
              · rw [if_pos c2, if_neg c1, if_neg (show ¬ X = (r : Int) by omega), if_pos (show Y = (r : Int) by omega)]; simp
              · rw [if_neg c2, if_neg c1, if_neg (show ¬ X = (r : Int) by omega), if_neg (show ¬ Y = (r : Int) by omega)]; simp
          show Dts _ _ _ (List.map tupI (doorsTo ps (r : Int) (i + 1)))
          rw [← er]; exact v2
      · obtain ⟨s3, s5, s6, s7, s8, s9, rfl, kG, tG, eG, rG⟩ := p
        have xl : xp.length = ps.length := by rw [db.len, List.length_map]
        rw [xl] at rG
        have tv : Tr av G := fun a m => tG a (List.mem_append_right _ m)
        refine ⟨.ref Dl, rfl, q G Dl ds kG fD (tr.not fD) (fun a m => tr.not (al a m).1) tv eG (by omega) ?_⟩
        intro r a e
        obtain ⟨ts, h1, h2, h3⟩ := rG r a e
        exact ⟨ts, h1, h2.less fun z m => List.mem_append_right _ m, by omega⟩
end
end Rw

namespace Rw
open PySem PySem.Spec PyProof.Rows L2
/-! ### how far all rooms lie from one -/
theorem pigeon : ∀ (n : Nat) (F : List Int), F.Nodup → (∀ t ∈ F, 0 ≤ t ∧ t < n) → F.length ≤ n
  | 0, [], _, _ => Nat.le_refl _
  | 0, t :: _, _, h => by have := h t List.mem_cons_self; omega
  | n + 1, F, nd, h => by
    by_cases m : (n : Int) ∈ F
    · have e := List.length_erase_of_mem m
      have := pigeon n (F.erase (n : Int)) (nd.erase _) (fun t ht => by
        have z := (nd.mem_erase_iff).mp ht
        have := h t z.2
        have := z.1
        omega)
      omega
    · have := pigeon n F nd (fun t ht => by
        have := h t ht
        have : t ≠ n := fun z => m (z ▸ ht)
        omega)
      omega
theorem mem_doors {ps : List Pi} {u : Int} {m : Nat} {row : List Int} : row ∈ doorsTo ps u m ↔ ∃ j : Nat, j < m ∧ (((pr ps (j : Int)).x = u ∧ row = [(j : Int), 0, (pr ps (j : Int)).y, (pr ps (j : Int)).l]) ∨ ((pr ps (j : Int)).y = u ∧ row = [(j : Int), (pr ps (j : Int)).l, (pr ps (j : Int)).x, 0])) := by
  unfold doorsTo
  rw [List.mem_flatMap]
  constructor
  · rintro ⟨j, hj, h⟩
    refine ⟨j, List.mem_range.mp hj, ?_⟩
    unfold doorRow at h
    rcases List.mem_append.mp h with h | h
    · split at h
      · rename_i e; exact .inl ⟨e, List.mem_singleton.mp h⟩
      · cases h
    · split at h
      · rename_i e; exact .inr ⟨e, List.mem_singleton.mp h⟩
      · cases h
  · rintro ⟨j, hj, h⟩
    refine ⟨j, List.mem_range.mpr hj, ?_⟩
    unfold doorRow
    rcases h with ⟨e, h⟩ | ⟨e, h⟩
    · rw [if_pos e, h]; exact List.mem_append_left _ List.mem_cons_self
    · rw [if_pos e, h]; exact List.mem_append_right _ List.mem_cons_self
/-! a row as towards has it: of a room, the door that leads nearer to r -/
def TowRow (ps : List Pi) (d : Int → Int → Int) (r t : Int) (row : List Int) : Prop :=
  ∃ (i : Nat) (p : Pi), ps[i]? = some p ∧ ((row = [(i : Int), 0, p.y, p.l] ∧ p.x = t ∧ d r p.y + p.l = d r t) ∨ (row = [(i : Int), p.l, p.x, 0] ∧ p.y = t ∧ d r p.x + p.l = d r t))
def TowE (av : List Addr) (G : Hp) (kw : List (Key × V)) (F : List Int) (ps : List Pi) (d : Int → Int → Int) (r : Int) : Prop :=
  ∀ t ∈ F, t ≠ r → ∃ (T : Addr) (row : List Int), valV kw (Sum.inl t) = some (.ref T) ∧ T ∉ av ∧ G T = some (.tup (row.map V.int)) ∧ TowRow ps d r t row
theorem TowE.keep {av : List Addr} {G G' : Hp} {kw : List (Key × V)} {F : List Int} {ps : List Pi} {d : Int → Int → Int} {r : Int} (h : TowE av G kw F ps d r) (k : ∀ b xs, G b = some (.tup xs) → G' b = some (.tup xs)) : TowE av G' kw F ps d r := fun t ht nt => by
  obtain ⟨T, row, h1, h2, h3, h4⟩ := h t ht nt
  exact ⟨T, row, h1, h2, k T _ h3, h4⟩
theorem keepTup {G : Hp} {b : Addr} {o u : HO} (e : G b = some o) (ho : ∀ xs, o ≠ .tup xs) : ∀ c xs, G c = some (.tup xs) → (upd G b u) c = some (.tup xs) := fun c xs ec => by
  have : c ≠ b := fun z => by rw [z, e] at ec; exact ho xs (Option.some.inj ec)
  rw [upd_ne this]; exact ec
theorem keepTupN {G : Hp} {b : Addr} {u : HO} (e : G b = none) : ∀ c xs, G c = some (.tup xs) → (upd G b u) c = some (.tup xs) := fun c xs ec => by
  rw [upd_ne (ne_of_none ec e)]; exact ec
def GapsAt (H : Hp) (g : Addr) (n : Int) (d : Int → Int → Int) (r : Int) : Prop := ∃ kvs, H g = some (.dK kvs) ∧ ∀ t, 0 ≤ t → t < n → valV kvs (Sum.inl t) = some (.int (d r t))
def TowAt (av : List Addr) (H : Hp) (w : Addr) (n : Int) (ps : List Pi) (d : Int → Int → Int) (r : Int) : Prop := ∃ kvs, H w = some (.dK kvs) ∧ TowE av H kvs (start n.toNat) ps d r
/-! what was found so far, what waits, but for here what was gone through is closed -/
structure SS (n : Int) (ps : List Pi) (d : Int → Int → Int) (r : Int) (F td ex : List Int) : Prop where
  nd : F.Nodup
  rg : ∀ t ∈ F, 0 ≤ t ∧ t < n
  src : r ∈ F
  sub : ∀ t ∈ td, t ∈ F
  few : td.length ≤ F.length
  par : Pard r (d r) (RE ps) F
  cl : ∀ u ∈ F, u ∉ td → u ∉ ex → ∀ v w, RE ps u v w → v ∈ F
theorem SS.first {n : Int} {ps : List Pi} {d : Int → Int → Int} {r : Int} (r0 : 0 ≤ r) (r1 : r < n) : SS n ps d r [r] [r] [] where
  nd := by simp
  rg := fun t ht => by rw [List.mem_singleton.mp ht]; exact ⟨r0, r1⟩
  src := List.mem_cons_self
  sub := fun t ht => ht
  few := Nat.le_refl _
  par := fun v hv nv => absurd (List.mem_singleton.mp hv) nv
  cl := fun u hu nu => absurd hu nu
theorem SS.pop {n : Int} {ps : List Pi} {d : Int → Int → Int} {r h : Int} {F td : List Int} (S : SS n ps d r F (td ++ [h]) []) : SS n ps d r F td [h] where
  nd := S.nd
  rg := S.rg
  src := S.src
  sub := fun t ht => S.sub t (List.mem_append_left _ ht)
  few := by have := S.few; rw [List.length_append] at this; omega
  par := S.par
  cl := fun u hu n1 n2 => S.cl u hu (fun m => (List.mem_append.mp m).elim n1 n2) List.not_mem_nil
theorem SS.add {n : Int} {ps : List Pi} {d : Int → Int → Int} {r h v w : Int} {F td : List Int} (T : Tm n ps d) (S : SS n ps d r F td [h]) (hh : h ∈ F) (nv : v ∉ F) (e : RE ps h v w) : SS n ps d r (F ++ [v]) (td ++ [v]) [h] ∧ d r v = d r h + w := by
  have rr := S.rg r S.src
  have R := T.rooms rr.1 rr.2
  have dv := R.found S.par hh (S.rg h hh) e nv
  refine ⟨⟨?_, ?_, List.mem_append_left _ S.src, ?_, by have := S.few; rw [List.length_append, List.length_append]; exact Nat.add_le_add_right this _, S.par.snoc hh (R.sym _ _ _ e) dv, ?_⟩, dv⟩
  · refine List.nodup_append.mpr ⟨S.nd, by simp, fun a ha b hb z => ?_⟩
    rw [List.mem_singleton.mp hb] at z
    exact nv (z ▸ ha)
  · intro t ht
    rcases List.mem_append.mp ht with m | m
    · exact S.rg t m
    · rw [List.mem_singleton.mp m]; exact R.cl _ _ _ (S.rg h hh) e
  · intro t ht
    rcases List.mem_append.mp ht with m | m
    · exact List.mem_append_left _ (S.sub t m)
    · exact List.mem_append_right _ m
  · intro u hu n1 n2 x y ex
    rcases List.mem_append.mp hu with m | m
    · exact List.mem_append_left _ (S.cl u m (fun z => n1 (List.mem_append_left _ z)) n2 x y ex)
    · exact absurd (List.mem_append_right _ m) n1
theorem SS.done {n : Int} {ps : List Pi} {d : Int → Int → Int} {r h : Int} {F td : List Int} (S : SS n ps d r F td [h]) (hc : ∀ v w, RE ps h v w → v ∈ F) : SS n ps d r F td [] where
  nd := S.nd
  rg := S.rg
  src := S.src
  sub := S.sub
  few := S.few
  par := S.par
  cl := fun u hu n1 _ v w e => by
    by_cases z : u = h
    · rw [z] at e; exact hc v w e
    · exact S.cl u hu n1 (fun m => z (List.mem_singleton.mp m)) v w e
theorem SS.all {n : Int} {ps : List Pi} {d : Int → Int → Int} {r : Int} {F : List Int} (T : Tm n ps d) (S : SS n ps d r F [] []) {t : Int} (t0 : 0 ≤ t) (t1 : t < n) : t ∈ F := by
  have rr := S.rg r S.src
  exact (T.rooms rr.1 rr.2).all S.src (fun u hu v w e => S.cl u hu List.not_mem_nil List.not_mem_nil v w e) _ t ⟨t0, t1⟩ (Nat.lt_succ_self _)
/-! the dicts: gaps has just what was found -/
def GapE (kg : List (Key × V)) (F : List Int) (d : Int → Int → Int) (r : Int) : Prop := kg.length = F.length ∧ (∀ t ∈ F, valV kg (Sum.inl t) = some (.int (d r t))) ∧ ∀ t, t ∉ F → valV kg (Sum.inl t) = none
theorem GapE.put {kg : List (Key × V)} {F : List Int} {d : Int → Int → Int} {r v : Int} (h : GapE kg F d r) (nv : v ∉ F) : GapE (putK kg (Sum.inl v) (.int (d r v))) (F ++ [v]) d r := by
  obtain ⟨h1, h2, h3⟩ := h
  refine ⟨?_, fun t ht => ?_, fun t ht => ?_⟩
  · rw [putK_new _ (h3 v nv), List.length_append, List.length_append, h1]; rfl
  · rw [valV_put]
    by_cases e : t = v
    · rw [e, if_pos rfl]
    · rw [if_neg (fun z => e (Sum.inl.inj z))]
      rcases List.mem_append.mp ht with m | m
      · exact h2 t m
      · exact absurd (List.mem_singleton.mp m) e
  · rw [valV_put, if_neg (fun z => ht (by rw [Sum.inl.inj z]; exact List.mem_append_right _ List.mem_cons_self))]
    exact h3 t (fun z => ht (List.mem_append_left _ z))
theorem Dts.unints {av : List Addr} {H : Hp} : ∀ {xs : List V} {ns : List Int}, Dts av H xs (ns.map PyData.int) → xs = ns.map V.int
  | _, [], h => by cases h; rfl
  | _, n :: ns, h => by
    cases h with
    | cons h1 h2 => cases h1; rw [Dts.unints h2]; rfl
theorem tupI_at {av : List Addr} {H : Hp} {v : V} {ns : List Int} (h : Dt av H v (tupI ns)) : ∃ a, v = .ref a ∧ a ∉ av ∧ H a = some (.tup (ns.map V.int)) := by
  unfold tupI at h
  cases h with
  | tup n e d => rw [d.unints] at e; exact ⟨_, rfl, n, e⟩
section
variable {P : Program} {w : World} {K : PySem.W.Frag} {mg : Str → Option Value} {base : Heap}
abbrev sSpread : Stmt := topS 37
abbrev nSpread : List Str := ["doors", "room", "gaps", "towards", "todo", "here", "pipe", "at", "beyond", "far"]
theorem scSpread : FnScope nSpread ["doors", "room"] (defScope sSpread) := ⟨rfl, rfl, rfl, by decide +kernel, rfl, by decide +kernel, by decide +kernel⟩
def spSpread : Sp := fun vs H Q _ => ∃ (Dl : Addr) (ds : List Addr) (n r : Int) (ps : List Pi) (d : Int → Int → Int) (av : List Addr), vs = [.ref Dl, .int r] ∧ H Dl = some (.lst (ds.map V.ref)) ∧ (ds.length : Int) = n ∧
  Rws av H ds (fun r => doorsTo ps (r : Int) ps.length) 100 ∧ HouseOk n ps ∧ Tm n ps d ∧ 0 ≤ r ∧ r < n ∧ Tr av H ∧
  ∀ (H' : Hp) (t g w : Addr), Keep [] H H' → Tr av H' → t ∉ av → g ∉ av → w ∉ av → H' t = some (.tup [.ref g, .ref w]) → GapsAt H' g n d r → TowAt av H' w n ps d r → Q (.ref t) H'
theorem ok_spread (h : Has K mg "spread_from" sSpread) (B : Blt mg) : Can P w K mg base "spread_from" ["doors", "room"] 1 spSpread := by
  obtain ⟨f, fd, F, g⟩ := h
  refine ⟨f, fd, F.ok (k := 0) scSpread (fun vs H Q E h => ?_) (fun cdv A outer s H vs Q E hr h => ?_), g, F.kp, F.binds fun _ _ _ _ _ _ us hl => match us, hl with | [_, _], _ => rfl⟩
  · obtain ⟨Dl, ds, n, r, ps, d, av, rfl, _⟩ := h
    rfl
  · obtain ⟨Dl, ds, n, r, ps, d, av, rfl, eD, dl, rw0, hk, T, r0, r1, tr, q⟩ := h
    have n2 := hk.n2
    refine ⟨_, pss_cons (ps_set (i := 2) scSpread.nd rfl (by first | exact Or.inl rfl | exact Or.inr rfl) (pe_disp (pps_cons (pv 1) pe_int pps_nil) (by rfl) (by rfl) (fun z => by cases z) (by decide)))
      (pss_cons (ps_set (i := 3) scSpread.nd rfl (by first | exact Or.inl rfl | exact Or.inr rfl) pe_dnewK)
      (pss_cons (ps_set (i := 4) scSpread.nd rfl (by first | exact Or.inl rfl | exact Or.inr rfl) (pe_lst (pa_cons (pv 1) pa_nil)))
      (pss_cons (ps_while PassesOwn.never (pt_truth (pv 4) (by intro _; rfl))
      (pss_cons (ps_set (i := 5) scSpread.nd rfl (by first | exact Or.inl rfl | exact Or.inr rfl) (pe_bm0 PySem.F.plainAttrs_list PySem.F.slot_list_pop PySem.F.type_list_pop mt_pop (pv 4)))
      (pss_one (ps_for PassesOwn.never rfl (pi_list (pe_ix ix_list (pv 0) (pv 5) (fun _ _ => rfl))) (pg_tup (by rfl) (pgs_cons (pg_name (i := 6) scSpread.nd rfl (by first | exact Or.inl rfl | exact Or.inr rfl)) (pgs_cons (pg_name (i := 7) scSpread.nd rfl (by first | exact Or.inl rfl | exact Or.inr rfl)) (pgs_cons (pg_name (i := 8) scSpread.nd rfl (by first | exact Or.inl rfl | exact Or.inr rfl)) (pgs_cons (pg_name (i := 9) scSpread.nd rfl (by first | exact Or.inl rfl | exact Or.inr rfl)) pgs_nil)))))
      (pss_one (ps_if (pt_cmp (pc_dnotin (hu_of hr) (pv 8) (pv 2))) (pss_cons (ps_dput (hu_of hr) (pv 2) (pv 8) (pe_op op_add (pe_dget (hu_of hr) (pv 2) (pv 5) (fun _ _ => rfl)) (pe_callB call_abs (by rfl) B.abs_ boot_abs (pa_cons (pe_op op_sub (pv 9) (pv 7)) pa_nil))) rfl)
      (pss_cons (ps_dput (hu_of hr) (pv 3) (pv 8) (pe_tup (pa_cons (pv 6) (pa_cons (pv 9) (pa_cons (pv 5) (pa_cons (pv 7) pa_nil))))) rfl)
      (pss_one (ps_expr (pe_bm PySem.F.plainAttrs_list PySem.F.slot_list_append PySem.F.type_list_append mt_append (pv 4) (pa_cons (pv 8) pa_nil)))))) pss_nil))))))
      (pss_one (ps_ret (pe_tup (pa_cons (pv 2) (pa_cons (pv 3) pa_nil)))))))), ?_⟩
    refine fun g ng => ⟨.int r, rfl, upd_same, [(Sum.inl r, .int 0)], rfl, by show 1 ≤ 15; decide, ?_⟩
    have eg0 : (upd (upd H g (.dK [])) g (.dK (mergeK [] [(Sum.inl r, V.int 0)]))) = upd H g (.dK [(Sum.inl r, V.int 0)]) := by rw [upd_upd]; rfl
    rw [eg0]
    refine fun w nw => ?_
    refine ⟨.int r, rfl, show 1 ≤ sizeLine by decide, fun td ntd => ?_⟩
    have ngw : g ≠ w := ne_of_none (upd_same (H := H) (a := g) (o := .dK [(Sum.inl r, V.int 0)])) nw
    have ew0 : (upd (upd H g (.dK [(Sum.inl r, V.int 0)])) w (.dK [])) w = some (.dK []) := upd_same
    have eg1 : (upd (upd H g (.dK [(Sum.inl r, V.int 0)])) w (.dK [])) g = some (.dK [(Sum.inl r, V.int 0)]) := by rw [upd_ne ngw]; exact upd_same
    have ngt : g ≠ td := ne_of_none eg1 ntd
    have nwt : w ≠ td := ne_of_none ew0 ntd
    have k0 : Keep [] H (upd (upd (upd H g (.dK [(Sum.inl r, V.int 0)])) w (.dK [])) td (.lst [.int r])) := (Keep.new ng).trans ((Keep.new nw).trans (Keep.new ntd))
    have fg : H g = none := ng
    have fw : H w = none := (Keep.new (av := []) ng).fr nw
    have ft : H td = none := ((Keep.new (av := []) ng).trans (Keep.new nw)).fr ntd
    refine ⟨fun m σ G => ∃ (F tds : List Int) (kg kw : List (Key × V)) (s5 s6 s7 s8 s9 : Option V), σ = [some (.ref Dl), some (.int r), some (.ref g), some (.ref w), some (.ref td), s5, s6, s7, s8, s9] ∧ Keep [] H G ∧ G g = some (.dK kg) ∧ G w = some (.dK kw) ∧ G td = some (.lst (tds.map V.int)) ∧
      SS n ps d r F tds [] ∧ GapE kg F d r ∧ TowE av G kw F ps d r ∧ kw.length ≤ F.length ∧ m = 2 * (16 - F.length) + tds.length, ⟨_, [r], [r], [(Sum.inl r, .int 0)], [], none, none, none, none, none, rfl, k0, ?_, ?_, upd_same, SS.first r0 r1, ⟨rfl, fun t ht => ?_, fun t ht => ?_⟩, fun t ht nt => absurd (List.mem_singleton.mp ht) nt, Nat.zero_le _, rfl⟩, fun m σ G p => ?_⟩
    · rw [upd_ne ngt]; exact eg1
    · rw [upd_ne nwt]; exact ew0
    · rw [List.mem_singleton.mp ht, T.zero]; exact valV_pos rfl
    · rw [valV_neg (fun z => ht (List.mem_singleton.mpr (Sum.inl.inj z).symm))]; rfl
    · obtain ⟨F, tds, kg, kw, s5, s6, s7, s8, s9, rfl, kG, eg, ew, et, S, ge, te, kl, rfl⟩ := p
      refine ⟨.ref td, rfl, _, .inl ⟨_, SqL.of et, rfl⟩, ?_⟩
      rcases List.eq_nil_or_concat tds with rfl | ⟨tl, hh, etl⟩
      · -- none waits
        rw [if_neg (show ¬ (!(([] : List Int).map V.int).isEmpty) = true by simp)]
        refine ⟨.ref g, rfl, .ref w, rfl, show 2 ≤ sizeLine by decide, fun t nt => ?_⟩
        have kN : Keep [] H (upd G t (.tup [.ref g, .ref w])) := kG.trans (Keep.new nt)
        refine q _ t g w kN (fun a m => ?_) (tr.not (kG.fr nt)) (tr.not fg) (tr.not fw) upd_same ⟨kg, ?_, fun u u0 u1 => ge.2.1 u (S.all T u0 u1)⟩ ⟨kw, ?_, fun u hu nu => ?_⟩
        · obtain ⟨o, e⟩ := tr a m
          exact ⟨o, kN a o e List.not_mem_nil⟩
        · rw [upd_ne (ne_of_none eg nt)]; exact eg
        · rw [upd_ne (ne_of_none ew nt)]; exact ew
        · have hu' := start_mem.mp hu
          exact te.keep (keepTupN nt) u (S.all T hu'.1 (by omega)) nu
      · rw [List.concat_eq_append] at etl
        subst etl
        rw [if_pos (show (!((tl ++ [hh]).map V.int).isEmpty) = true by simp)]
        have hF : hh ∈ F := S.sub hh (List.mem_append_right _ List.mem_cons_self)
        have hhr := S.rg hh hF
        have Fl := pigeon 16 F S.nd (fun t ht => by have := S.rg t ht; omega)
        rw [List.map_append] at et
        refine ⟨fun σ' G' => ∃ m', m' < 2 * (16 - F.length) + (tl ++ [hh]).length ∧ ∃ (F tds : List Int) (kg kw : List (Key × V)) (s5 s6 s7 s8 s9 : Option V), σ' = [some (.ref Dl), some (.int r), some (.ref g), some (.ref w), some (.ref td), s5, s6, s7, s8, s9] ∧ Keep [] H G' ∧ G' g = some (.dK kg) ∧ G' w = some (.dK kw) ∧ G' td = some (.lst (tds.map V.int)) ∧
          SS n ps d r F tds [] ∧ GapE kg F d r ∧ TowE av G' kw F ps d r ∧ kw.length ≤ F.length ∧ m' = 2 * (16 - F.length) + tds.length, fun σ' G' h => h, ?_⟩
        refine ⟨.ref td, rfl, .inl ⟨rfl, _, SqL.of et⟩, td, _, .int hh, rfl, rfl, et, by simp, ?_⟩
        have edl : (tl.map V.int ++ [hh].map V.int).dropLast = tl.map V.int := by simp
        rw [edl]
        have kG2 : Keep [] H (upd G td (.lst (tl.map V.int))) := kG.upd ft
        have eg2 : (upd G td (.lst (tl.map V.int))) g = some (.dK kg) := by rw [upd_ne ngt]; exact eg
        have ew2 : (upd G td (.lst (tl.map V.int))) w = some (.dK kw) := by rw [upd_ne nwt]; exact ew
        have et2 : (upd G td (.lst (tl.map V.int))) td = some (.lst (tl.map V.int)) := upd_same
        have te2 := te.keep (keepTup (u := .lst (tl.map V.int)) et (fun xs z => by cases z))
        generalize upd G td (.lst (tl.map V.int)) = G2 at kG2 eg2 ew2 et2 te2 ⊢
        obtain ⟨a, ga⟩ : ∃ a, ds[hh.toNat]? = some a := ⟨_, List.getElem?_eq_getElem (by omega)⟩
        obtain ⟨ts, ea, da, la⟩ := rw0 hh.toNat a ga
        have eh : ((hh.toNat : Nat) : Int) = hh := by omega
        have da' : Dts av H ts ((doorsTo ps hh ps.length).map tupI) := by
          have z : Dts av H ts ((doorsTo ps ((hh.toNat : Nat) : Int) ps.length).map tupI) := da
          rw [eh] at z; exact z
        have S2 := S.pop
        refine ⟨.ref Dl, rfl, .int hh, rfl, Dl, _, hh, .ref a, rfl, rfl, SqL.of (kG2 Dl _ eD List.not_mem_nil), atI_of hhr.1 (by rw [List.getElem?_map, ga]; rfl), a, rfl, ⟨_, SqL.of (kG2 a _ ea List.not_mem_nil)⟩, ?_⟩
        refine for_list (K := K) (a := a) (xs := ts) (fun j σ J => ∃ (F' tds' : List Int) (kg kw : List (Key × V)) (s6 s7 s8 s9 : Option V), σ = [some (.ref Dl), some (.int r), some (.ref g), some (.ref w), some (.ref td), some (.int hh), s6, s7, s8, s9] ∧ Keep [] H J ∧ J g = some (.dK kg) ∧ J w = some (.dK kw) ∧ J td = some (.lst (tds'.map V.int)) ∧
          SS n ps d r F' tds' [hh] ∧ hh ∈ F' ∧ GapE kg F' d r ∧ TowE av J kw F' ps d r ∧ kw.length ≤ F'.length ∧ 2 * (16 - F'.length) + tds'.length ≤ 2 * (16 - F.length) + tl.length ∧ ∀ row ∈ (doorsTo ps hh ps.length).take j, row.getD 2 0 ∈ F')
          ⟨F, tl, kg, kw, _, _, _, _, rfl, kG2, eg2, ew2, et2, S2, hF, ge, te2, kl, Nat.le_refl _, fun row z => by simp at z⟩ (fun j σ J _ p => ?_) (fun j x σ J hx p => ?_) (fun σ J p => ?_)
        · obtain ⟨_, _, _, _, _, _, _, _, _, kJ, _⟩ := p
          exact SqL.of (kJ a _ ea List.not_mem_nil)
        · obtain ⟨F', tds', kg, kw, s6, s7, s8, s9, rfl, kJ, eg, ew, et, SJ, hF', ge, te, kl, ms, al⟩ := p
          obtain ⟨dd, gd, dx⟩ := (da'.keep kJ.of).getv j hx
          rw [List.getElem?_map] at gd
          obtain ⟨row, grow, rfl⟩ := Option.map_eq_some_iff.mp gd
          obtain ⟨i, il, hrow⟩ := mem_doors.mp (List.mem_of_getElem? grow)
          have pg := (hk.at il).2
          have pl := (hk.at il).1.fit.l1
          obtain ⟨ia, at', v, far, L, erow, hRE, habs, htow⟩ : ∃ ia at' v far L : Int, row = [ia, at', v, far] ∧ RE ps hh v L ∧ (if far - at' < 0 then -(far - at') else far - at') = L ∧ (d r v = d r hh + L → TowRow ps d r v [ia, far, hh, at']) := by
            rcases hrow with ⟨e, h⟩ | ⟨e, h⟩
            · exact ⟨_, _, _, _, _, h, ⟨i, _, pg, rfl, .inl ⟨e, rfl⟩⟩, by split <;> omega, fun z => ⟨i, _, pg, .inr ⟨by rw [e], rfl, by rw [e]; exact z.symm⟩⟩⟩
            · exact ⟨_, _, _, _, _, h, ⟨i, _, pg, rfl, .inr ⟨e, rfl⟩⟩, by split <;> omega, fun z => ⟨i, _, pg, .inl ⟨by rw [e], rfl, by rw [e]; exact z.symm⟩⟩⟩
          subst erow
          obtain ⟨Ta, rfl, nTa, eTa⟩ := tupI_at dx
          have tk : (doorsTo ps hh ps.length).take (j + 1) = (doorsTo ps hh ps.length).take j ++ [[ia, at', v, far]] := by rw [List.take_add_one, grow]; rfl
          refine ⟨Ta, [.int ia, .int at', .int v, .int far], rfl, SqT.of eTa, rfl, _, _, rfl, _, _, rfl, _, _, rfl, _, [], rfl, rfl, ?_⟩
          refine ⟨.int v, rfl, .ref g, rfl, g, _, rfl, DGet.k (k := Sum.inl v) eg, _, rfl, ?_⟩
          by_cases hv : v ∈ F'
          · rw [ge.2.1 v hv]
            refine iteF ?_
            refine ⟨F', tds', kg, kw, _, _, _, _, rfl, kJ, eg, ew, et, SJ, hF', ge, te, kl, ms, fun row hrow => ?_⟩
            rw [tk] at hrow
            rcases List.mem_append.mp hrow with m | m
            · exact al row m
            · rw [List.mem_singleton.mp m]; exact hv
          · rw [ge.2.2 v hv]
            refine iteT ?_
            obtain ⟨SN, dv⟩ := SJ.add T hF' hv hRE
            have Fl' := pigeon 16 (F' ++ [v]) SN.nd (fun t ht => by have := SN.rg t ht; omega)
            rw [List.length_append, List.length_singleton] at Fl'
            have kgl : kg.length < sizeLine := by rw [ge.1]; exact Nat.lt_of_lt_of_le (by omega : F'.length < 1000) (small1000 (by omega))
            refine ⟨.ref g, rfl, .int hh, rfl, g, .int (d r hh), rfl, by rw [← ge.2.1 hh hF']; exact DGet.k (k := Sum.inl hh) eg, .int far, rfl, .int at', rfl, far, at', rfl, rfl, far - at', rfl, d r hh, _, rfl, rfl, .ref g, rfl, .int v, rfl, g, _, rfl, (show DPut J g (.int v) (.int (d r hh + (if far - at' < 0 then -(far - at') else far - at'))) _ from DPut.k (k := Sum.inl v) eg kgl), ?_⟩
            rw [habs, ← dv]
            have ew1 : (upd J g (.dK (putK kg (Sum.inl v) (.int (d r v))))) w = some (.dK kw) := by rw [upd_ne ngw.symm]; exact ew
            have et1 : (upd J g (.dK (putK kg (Sum.inl v) (.int (d r v))))) td = some (.lst (tds'.map V.int)) := by rw [upd_ne ngt.symm]; exact et
            have eg1 : (upd J g (.dK (putK kg (Sum.inl v) (.int (d r v))))) g = some (.dK (putK kg (Sum.inl v) (.int (d r v)))) := upd_same
            have te1 := te.keep (keepTup (u := .dK (putK kg (Sum.inl v) (.int (d r v)))) eg (fun xs z => by cases z))
            have k1 : Keep [] H (upd J g (.dK (putK kg (Sum.inl v) (.int (d r v))))) := kJ.upd fg
            have ge1 := ge.put hv
            generalize upd J g (.dK (putK kg (Sum.inl v) (.int (d r v)))) = J1 at ew1 et1 eg1 te1 k1 ⊢
            refine ⟨.int ia, rfl, .int far, rfl, .int hh, rfl, .int at', rfl, show 4 ≤ sizeLine by decide, fun Tn nTn => ?_⟩
            have kwl : kw.length < sizeLine := Nat.lt_of_lt_of_le (by omega : kw.length < 1000) (small1000 (by omega))
            have ew2 : (upd J1 Tn (.tup [.int ia, .int far, .int hh, .int at'])) w = some (.dK kw) := by rw [upd_ne (ne_of_none ew1 nTn)]; exact ew1
            refine ⟨.ref w, rfl, .int v, rfl, w, _, rfl, DPut.k (k := Sum.inl v) ew2 kwl, ?_⟩
            have nTw : Tn ≠ w := (ne_of_none ew1 nTn).symm
            have et3 : (upd (upd J1 Tn (.tup [.int ia, .int far, .int hh, .int at'])) w (.dK (putK kw (Sum.inl v) (.ref Tn)))) td = some (.lst (tds'.map V.int)) := by rw [upd_ne nwt.symm, upd_ne (ne_of_none et1 nTn)]; exact et1
            have eg3 : (upd (upd J1 Tn (.tup [.int ia, .int far, .int hh, .int at'])) w (.dK (putK kw (Sum.inl v) (.ref Tn)))) g = some (.dK (putK kg (Sum.inl v) (.int (d r v)))) := by rw [upd_ne ngw, upd_ne (ne_of_none eg1 nTn)]; exact eg1
            have ew3 : (upd (upd J1 Tn (.tup [.int ia, .int far, .int hh, .int at'])) w (.dK (putK kw (Sum.inl v) (.ref Tn)))) w = some (.dK (putK kw (Sum.inl v) (.ref Tn))) := upd_same
            have eT3 : (upd (upd J1 Tn (.tup [.int ia, .int far, .int hh, .int at'])) w (.dK (putK kw (Sum.inl v) (.ref Tn)))) Tn = some (.tup ([ia, far, hh, at'].map V.int)) := by rw [upd_ne nTw]; exact upd_same
            have te3 := (te1.keep (keepTupN (u := .tup [.int ia, .int far, .int hh, .int at']) nTn)).keep (keepTup (u := .dK (putK kw (Sum.inl v) (.ref Tn))) ew2 (fun xs z => by cases z))
            have k3 : Keep [] H (upd (upd J1 Tn (.tup [.int ia, .int far, .int hh, .int at'])) w (.dK (putK kw (Sum.inl v) (.ref Tn)))) := (k1.trans (Keep.new nTn)).upd fw
            have nTav : Tn ∉ av := tr.not (k1.fr nTn)
            generalize upd (upd J1 Tn (.tup [.int ia, .int far, .int hh, .int at'])) w (.dK (putK kw (Sum.inl v) (.ref Tn))) = J3 at et3 eg3 ew3 eT3 te3 k3 ⊢
            have tdl : tds'.length ≤ 100 := by have := SJ.few; omega
            refine ⟨.ref td, rfl, .inl ⟨rfl, _, SqL.of et3⟩, .int v, rfl, td, _, _, rfl, rfl, et3, by rw [List.length_map]; exact Nat.lt_of_lt_of_le (by omega : tds'.length < 1000) (small1000 (by omega)), ?_⟩
            refine ⟨F' ++ [v], tds' ++ [v], _, _, _, _, _, _, rfl, k3.upd ft, by rw [upd_ne ngt]; exact eg3, by rw [upd_ne nwt]; exact ew3, by rw [upd_same, List.map_append]; rfl, SN, List.mem_append_left _ hF', ge1, fun t ht nt => ?_, ?_, ?_, fun row hrow => ?_⟩
            · by_cases ev : t = v
              · subst ev
                exact ⟨Tn, _, by rw [valV_put, if_pos rfl], nTav, keepTup (u := .lst (tds'.map V.int ++ [V.int t])) et3 (fun xs z => by cases z) _ _ eT3, htow dv⟩
              · rcases List.mem_append.mp ht with m | m
                · obtain ⟨T', row', h1, h2, h3, h4⟩ := te3.keep (keepTup (u := .lst (tds'.map V.int ++ [V.int v])) et3 (fun xs z => by cases z)) t m nt
                  exact ⟨T', row', by rw [valV_put, if_neg (fun z => ev (Sum.inl.inj z))]; exact h1, h2, h3, h4⟩
                · exact absurd (List.mem_singleton.mp m) ev
            · have := DSub.putK_len kw (Sum.inl v) (V.ref Tn)
              rw [List.length_append, List.length_singleton]; omega
            · rw [List.length_append, List.length_append, List.length_singleton]
              omega
            · rw [tk] at hrow
              rcases List.mem_append.mp hrow with m | m
              · exact List.mem_append_left _ (al row m)
              · rw [List.mem_singleton.mp m]; exact List.mem_append_right _ List.mem_cons_self
        · obtain ⟨F', tds', kg', kw', s6', s7', s8', s9', rfl, kJ, egJ, ewJ, etJ, SJ, hFJ, geJ, teJ, klJ, ms, al⟩ := p
          refine ⟨_, ?_, F', tds', kg', kw', _, _, _, _, _, rfl, kJ, egJ, ewJ, etJ, SJ.done (fun v w' e => ?_), geJ, teJ, klJ, rfl⟩
          · rw [List.length_append, List.length_singleton]; omega
          · obtain ⟨i, p, ei, hw, hp⟩ := e
            have il : i < ps.length := (List.getElem?_eq_some_iff.mp ei).1
            have ln : ts.length = (doorsTo ps hh ps.length).length := by rw [da'.len, List.length_map]
            rw [ln, List.take_length] at al
            rcases hp with ⟨h1, h2⟩ | ⟨h1, h2⟩
            · have := al _ (mem_doors.mpr ⟨i, il, .inl ⟨by rw [pr_of ei]; exact h1, rfl⟩⟩)
              rw [pr_of ei] at this
              rw [← h2]; exact this
            · have := al _ (mem_doors.mpr ⟨i, il, .inr ⟨by rw [pr_of ei]; exact h1, rfl⟩⟩)
              rw [pr_of ei] at this
              rw [← h2]; exact this
end
end Rw

namespace Rw
open PySem PySem.Spec PyProof.Rows L2
/-! ### a house's plan -/
def pf1 (b : V) : List (Str × V) := [("built", b)]
def pf2 (b p : V) : List (Str × V) := [("built", b), ("pipes", p)]
def pf3 (b p e : V) : List (Str × V) := [("built", b), ("pipes", p), ("doors", e)]
def pf4 (b p e g : V) : List (Str × V) := [("built", b), ("pipes", p), ("doors", e), ("gaps", g)]
def pf5 (b p e g t : V) : List (Str × V) := [("built", b), ("pipes", p), ("doors", e), ("gaps", g), ("towards", t)]
theorem putF_new {k : Str} {v : V} : ∀ fs : List (Str × V), (fs.all fun e => !decide (e.1 = k)) = true → putF k v fs = fs ++ [(k, v)]
  | [], _ => rfl
  | (x, y) :: r, h => by
    rw [List.all_cons, Bool.and_eq_true] at h
    have n : ¬ x = k := by
      intro z
      rw [decide_eq_true z] at h
      cases h.1
    show (if x = k then _ else (x, y) :: putF k v r) = _
    rw [if_neg n, putF_new r h.2]; rfl
theorem pf_2 (b p : V) : putF "pipes" p (pf1 b) = pf2 b p := putF_new (k := "pipes") (pf1 b) (by show (!decide (("built" : Str) = "pipes") && true) = true; decide +kernel)
theorem pf_3 (b p e : V) : putF "doors" e (pf2 b p) = pf3 b p e := putF_new (k := "doors") (pf2 b p) (by show (!decide (("built" : Str) = "doors") && (!decide (("pipes" : Str) = "doors") && true)) = true; decide +kernel)
theorem pf_4 (b p e g : V) : putF "gaps" g (pf3 b p e) = pf4 b p e g := putF_new (k := "gaps") (pf3 b p e) (by show (!decide (("built" : Str) = "gaps") && (!decide (("pipes" : Str) = "gaps") && (!decide (("doors" : Str) = "gaps") && true))) = true; decide +kernel)
theorem pf_5 (b p e g t : V) : putF "towards" t (pf4 b p e g) = pf5 b p e g t := putF_new (k := "towards") (pf4 b p e g) (by show (!decide (("built" : Str) = "towards") && (!decide (("pipes" : Str) = "towards") && (!decide (("doors" : Str) = "towards") && (!decide (("gaps" : Str) = "towards") && true)))) = true; decide +kernel)
theorem lk_no {k x : Str} {y : V} {r : List (Str × V)} (h : (k == x) = false) : ((x, y) :: r).lookup k = r.lookup k := by simp only [List.lookup, h]
theorem lk_yes {k : Str} {y : V} {r : List (Str × V)} : ((k, y) :: r).lookup k = some y := by simp [List.lookup]
theorem pf_built (b p e g t : V) : (pf5 b p e g t).lookup ("built" : Str) = some b := lk_yes
theorem pf_pipes (b p e g t : V) : (pf5 b p e g t).lookup ("pipes" : Str) = some p := ((lk_no (k := "pipes") (x := "built") (by decide +kernel)).trans lk_yes)
theorem pf_doors (b p e g t : V) : (pf5 b p e g t).lookup ("doors" : Str) = some e := ((lk_no (k := "doors") (x := "built") (by decide +kernel)).trans ((lk_no (k := "doors") (x := "pipes") (by decide +kernel)).trans lk_yes))
theorem pf_gaps (b p e g t : V) : (pf5 b p e g t).lookup ("gaps" : Str) = some g := ((lk_no (k := "gaps") (x := "built") (by decide +kernel)).trans ((lk_no (k := "gaps") (x := "pipes") (by decide +kernel)).trans ((lk_no (k := "gaps") (x := "doors") (by decide +kernel)).trans lk_yes)))
theorem pf_tow (b p e g t : V) : (pf5 b p e g t).lookup ("towards" : Str) = some t := ((lk_no (k := "towards") (x := "built") (by decide +kernel)).trans ((lk_no (k := "towards") (x := "pipes") (by decide +kernel)).trans ((lk_no (k := "towards") (x := "doors") (by decide +kernel)).trans ((lk_no (k := "towards") (x := "gaps") (by decide +kernel)).trans lk_yes))))
def PlanAt (C : Addr) (av : List Addr) (H : Hp) (a : Addr) (n : Int) (ps : List Pi) (d : Int → Int → Int) : Prop :=
  ∃ (dx hb pp dl gl tl : Addr) (xp : List V) (ds gs ws : List Addr), a ∉ av ∧ H a = some (.ins C dx (pf5 (.ref hb) (.ref pp) (.ref dl) (.ref gl) (.ref tl))) ∧ hb ∉ av ∧ H hb = some (.tup [.int n, .ref pp]) ∧ pp ∉ av ∧ H pp = some (.tup xp) ∧ Dts av H xp (ps.map Pi.dat) ∧
    dl ∉ av ∧ H dl = some (.lst (ds.map V.ref)) ∧ (ds.length : Int) = n ∧ (∀ z ∈ ds, z ∉ av) ∧ Rws av H ds (fun r => doorsTo ps (r : Int) ps.length) 100 ∧
    gl ∉ av ∧ H gl = some (.lst (gs.map V.ref)) ∧ gs.length = n.toNat ∧ (∀ (r : Nat) (z : Addr), gs[r]? = some z → z ∉ av ∧ GapsAt H z n d (r : Int)) ∧
    tl ∉ av ∧ H tl = some (.lst (ws.map V.ref)) ∧ ws.length = n.toNat ∧ ∀ (r : Nat) (z : Addr), ws[r]? = some z → z ∉ av ∧ TowAt av H z n ps d (r : Int)
theorem GapsAt.keep {av : List Addr} {H H' : Hp} {z : Addr} {n r : Int} {d : Int → Int → Int} (h : GapsAt H z n d r) (nz : z ∉ av) (k : Keep av H H') : GapsAt H' z n d r := by
  obtain ⟨kvs, e, h⟩ := h
  exact ⟨kvs, k z _ e nz, h⟩
theorem TowAt.keep {av : List Addr} {H H' : Hp} {z : Addr} {n r : Int} {ps : List Pi} {d : Int → Int → Int} (h : TowAt av H z n ps d r) (nz : z ∉ av) (k : Keep av H H') : TowAt av H' z n ps d r := by
  obtain ⟨kvs, e, h⟩ := h
  refine ⟨kvs, k z _ e nz, fun t ht nt => ?_⟩
  obtain ⟨T, row, h1, h2, h3, h4⟩ := h t ht nt
  exact ⟨T, row, h1, h2, k T _ h3 h2, h4⟩
theorem TowAt.less {av av' : List Addr} {H : Hp} {z : Addr} {n r : Int} {ps : List Pi} {d : Int → Int → Int} (h : TowAt av H z n ps d r) (s : ∀ a ∈ av', a ∈ av) : TowAt av' H z n ps d r := by
  obtain ⟨kvs, e, h⟩ := h
  refine ⟨kvs, e, fun t ht nt => ?_⟩
  obtain ⟨T, row, h1, h2, h3, h4⟩ := h t ht nt
  exact ⟨T, row, h1, fun m => h2 (s T m), h3, h4⟩
theorem Rws.keep {av : List Addr} {G G' : Hp} {ds : List Addr} {f : Nat → List (List Int)} {m : Nat} (h : Rws av G ds f m) (nz : ∀ z ∈ ds, z ∉ av) (k : Keep av G G') : Rws av G' ds f m := fun r a e => by
  obtain ⟨ts, h1, h2, h3⟩ := h r a e
  exact ⟨ts, k a _ h1 (nz a (List.mem_of_getElem? e)), h2.keep k, h3⟩
theorem Rws.more {av : List Addr} {G : Hp} {ds : List Addr} {f : Nat → List (List Int)} {m : Nat} {p : Addr} (h : Rws av G ds f m) (n : G p = none) : Rws (p :: av) G ds f m := fun r a e => by
  obtain ⟨ts, h1, h2, h3⟩ := h r a e
  exact ⟨ts, h1, h2.more n, h3⟩
theorem PlanAt.keep {C : Addr} {av : List Addr} {H H' : Hp} {a : Addr} {n : Int} {ps : List Pi} {d : Int → Int → Int} (h : PlanAt C av H a n ps d) (k : Keep av H H') : PlanAt C av H' a n ps d := by
  obtain ⟨dx, hb, pp, dl, gl, tl, xp, ds, gs, ws, a1, a2, a3, a4, a5, a6, a7, a8, a9, b1, b2, b3, b4, b5, b6, b7, b8, b9, c1, c2⟩ := h
  exact ⟨dx, hb, pp, dl, gl, tl, xp, ds, gs, ws, a1, k _ _ a2 a1, a3, k _ _ a4 a3, a5, k _ _ a6 a5, a7.keep k, a8, k _ _ a9 a8, b1, b2, b3.keep b2 k, b4, k _ _ b5 b4, b6, fun r z e => ⟨(b7 r z e).1, (b7 r z e).2.keep (b7 r z e).1 k⟩, b8, k _ _ b9 b8, c1, fun r z e => ⟨(c2 r z e).1, (c2 r z e).2.keep (c2 r z e).1 k⟩⟩
theorem PlanAt.less {C : Addr} {av av' : List Addr} {H : Hp} {a : Addr} {n : Int} {ps : List Pi} {d : Int → Int → Int} (h : PlanAt C av H a n ps d) (s : ∀ a ∈ av', a ∈ av) : PlanAt C av' H a n ps d := by
  obtain ⟨dx, hb, pp, dl, gl, tl, xp, ds, gs, ws, a1, a2, a3, a4, a5, a6, a7, a8, a9, b1, b2, b3, b4, b5, b6, b7, b8, b9, c1, c2⟩ := h
  have f : ∀ {z : Addr}, z ∉ av → z ∉ av' := fun nz m => nz (s _ m)
  exact ⟨dx, hb, pp, dl, gl, tl, xp, ds, gs, ws, f a1, a2, f a3, a4, f a5, a6, a7.less s, f a8, a9, b1, fun z m => f (b2 z m), b3.less s, f b4, b5, b6, fun r z e => ⟨f (b7 r z e).1, (b7 r z e).2⟩, f b8, b9, c1, fun r z e => ⟨f (c2 r z e).1, (c2 r z e).2.less s⟩⟩
/-! a class of the program whose __init__ keeps a promise -/
def CanMk (P : Program) (w : World) (K : PySem.W.Frag) (mg : Str → Option Value) (base : Heap) (x : Str) (C : Addr) (ps : List Str) (k : Nat) (sp : Sp) : Prop := ∃ f fd, Mk K C f ∧ FnOk P w K mg base CX0 k f fd ps sp ∧ mg x = some (.ref C) ∧ Binds K fd ps []
theorem pe_mk {X : Cx} {x : Str} {C : Addr} {ps : List Str} {k : Nat} {sp : Sp} {e : Expr} {es : List Expr} {t : TA} {p pos : Pos} (M : CanMk X.prog X.w X.K X.mg X.base x C ps k sp) (hr : Room (k + 1) X.A) (hg : Gl X x)
    (ha : PA X (e :: es) t) (hdb : (x == ("__debug__" : Str)) = false := by decide) (he : starEach (e :: es) X.env = (false, eval e X.env) :: starEach es X.env := by rfl) (hpl : (backTo pos (starEach es X.env)).any (·.1) = false := by rfl) :
    PE X (.Call (.Name x p) (e :: es) [] pos) (tMake C sp [] E0 t) := by
  obtain ⟨f, fd, M, F, gm, b⟩ := M
  exact pe_make M F hr hg gm b .nil pass0 ha hdb he hpl
structure PlanTxt (K : PySem.W.Frag) (C : Addr) : Prop where
  cl : Cls K C
  nB : NoAttr K C "built"
  nP : NoAttr K C "pipes"
  nD : NoAttr K C "doors"
  nG : NoAttr K C "gaps"
  nT : NoAttr K C "towards"
section
variable {P : Program} {w : World} {K : PySem.W.Frag} {mg : Str → Option Value} {base : Heap}
abbrev sInit : Stmt := inClass (topS 35) 0
abbrev nInit : List Str := ["self", "house", "room", "gaps", "towards"]
theorem scInit : FnScope nInit ["self", "house"] (defScope sInit) := ⟨rfl, rfl, rfl, by decide +kernel, rfl, by decide +kernel, by decide +kernel⟩
def spInit (C : Addr) : Sp := fun vs H Q _ => ∃ (x dx : Addr) (h : V) (n : Int) (ps : List Pi) (d : Int → Int → Int) (av : List Addr), vs = [.ref x, h] ∧ H x = some (.ins C dx []) ∧ x ∉ av ∧ Dt (x :: av) H h (houseD n (ps.map Pi.dat)) ∧ HouseOk n ps ∧ Tm n ps d ∧ Tr av H ∧
  ∀ H' : Hp, Keep [x] H H' → Tr av H' → PlanAt C av H' x n ps d → Q .non H'
theorem ok_init {C f : Addr} {fd : FuncData} (F : Fun K "__init__" "Plan.__init__" sInit f fd) (B : Blt mg) (X : PlanTxt K C) (CD : Can P w K mg base "doors_of" ["house"] 1 spDoors) (CS : Can P w K mg base "spread_from" ["doors", "room"] 1 spSpread) : FnOk P w K mg base CX0 2 f fd ["self", "house"] (spInit C) := by
  refine F.ok (k := 1) scInit (fun vs H Q E h => ?_) (fun cdv A outer s H vs Q E hr h => ?_)
  · obtain ⟨x, dx, h, n, ps, d, av, rfl, _⟩ := h
    rfl
  · obtain ⟨x, dx, h, n, ps, d, av, rfl, ex, nx, hh, hk, T, tr, q⟩ := h
    have n1 := hk.n1
    have n2 := hk.n2
    refine ⟨_, pss_cons (ps_fld (pv 0) (pv 1) rfl)
      (pss_cons (ps_fld (pv 0) (pe_ix ix_tup (pv 1) pe_int (fun _ _ => rfl)) rfl)
      (pss_cons (ps_fld (pv 0) (pe_can CD (hr.mono (by decide)) (by rfl) (pa_cons (pv 1) pa_nil)) rfl)
      (pss_cons (ps_fld (pv 0) (pe_lst pa_nil) rfl)
      (pss_cons (ps_fld (pv 0) (pe_lst pa_nil) rfl)
      (pss_one (ps_for PassesOwn.never rfl (pi_range1 (by rfl) B.range_ (pa_cons (pe_ix ix_tup (pv 1) pe_int (fun _ _ => rfl)) pa_nil)) (pg_name (i := 2) scInit.nd rfl (by first | exact Or.inl rfl | exact Or.inr rfl))
      (pss_cons (ps_asg (pe_can CS (hr.mono (by decide)) (by rfl) (pa_cons (pe_fld (pv 0) rfl) (pa_cons (pv 2) pa_nil))) (pg_tup (by rfl) (pgs_cons (pg_name (i := 3) scInit.nd rfl (by first | exact Or.inl rfl | exact Or.inr rfl)) (pgs_cons (pg_name (i := 4) scInit.nd rfl (by first | exact Or.inl rfl | exact Or.inr rfl)) pgs_nil))))
      (pss_cons (ps_expr (pe_bm PySem.F.plainAttrs_list PySem.F.slot_list_append PySem.F.type_list_append mt_append (pe_fld (pv 0) rfl) (pa_cons (pv 3) pa_nil)))
      (pss_one (ps_expr (pe_bm PySem.F.plainAttrs_list PySem.F.slot_list_append PySem.F.type_list_append mt_append (pe_fld (pv 0) rfl) (pa_cons (pv 4) pa_nil)))))))))))), ?_⟩
    obtain ⟨ah, ap, xp, rfl, na, ea, nb, eb, db⟩ := house_parts hh
    have nax : ah ≠ x := fun z => na (by rw [z]; exact List.mem_cons_self)
    have nbx : ap ≠ x := fun z => nb (by rw [z]; exact List.mem_cons_self)
    refine ⟨.ref ah, rfl, .ref x, rfl, x, C, dx, [], rfl, ex, X.cl, X.nB, by show 0 < 1000; decide, ?_⟩
    refine ⟨.ref ah, rfl, ah, [.int n, .ref ap], 1, .ref ap, rfl, rfl, SqT.of (by rw [upd_ne nax]; exact ea), atI_nat (j := 1) rfl, .ref x, rfl, x, C, dx, _, rfl, upd_same, X.cl, X.nP, by show 1 < 1000; decide, ?_⟩
    rw [upd_upd, show putF "built" (V.ref ah) [] = pf1 (.ref ah) from rfl, pf_2]
    have kx : ∀ o, Keep (x :: av) H (upd H x o) := fun o => Keep.put List.mem_cons_self
    have trx : ∀ o, Tr (x :: av) (upd H x o) := fun o => (tr.upd).cons upd_same
    refine ⟨.ref ah, rfl, .ref ah, n, ps, x :: av, rfl, hh.keep (kx _), hk, trx _, fun H1 Dl ds k1 fD nD nds tr1 eD dl rws => ?_⟩
    have ex1 := k1 x _ upd_same List.not_mem_nil
    refine ⟨.ref x, rfl, x, C, dx, _, rfl, ex1, X.cl, X.nD, by show 2 < 1000; decide, ?_⟩
    rw [pf_3]
    have nDx : Dl ≠ x := fun z => nD (by rw [z]; exact List.mem_cons_self)
    have kA : Keep [x] H (upd H1 x (.ins C dx (pf3 (.ref ah) (.ref ap) (.ref Dl)))) := ((Keep.put List.mem_cons_self).trans k1.of).trans (Keep.put List.mem_cons_self)
    have rwA : Rws (x :: av) (upd H1 x (.ins C dx (pf3 (.ref ah) (.ref ap) (.ref Dl)))) ds (fun r => doorsTo ps (r : Int) ps.length) 100 := rws.keep nds (Keep.put List.mem_cons_self)
    have eDA : (upd H1 x (.ins C dx (pf3 (.ref ah) (.ref ap) (.ref Dl)))) Dl = some (.lst (ds.map V.ref)) := by rw [upd_ne nDx]; exact eD
    have exA : (upd H1 x (.ins C dx (pf3 (.ref ah) (.ref ap) (.ref Dl)))) x = some (.ins C dx (pf3 (.ref ah) (.ref ap) (.ref Dl))) := upd_same
    have trA : Tr (x :: av) (upd H1 x (.ins C dx (pf3 (.ref ah) (.ref ap) (.ref Dl)))) := tr1.upd
    have kA2 : Keep (x :: av) H (upd H1 x (.ins C dx (pf3 (.ref ah) (.ref ap) (.ref Dl)))) := kA.mono (fun z m => by rw [List.mem_singleton.mp m]; exact List.mem_cons_self)
    generalize upd H1 x (.ins C dx (pf3 (.ref ah) (.ref ap) (.ref Dl))) = HA at kA kA2 rwA eDA exA trA ⊢
    refine ⟨show 0 ≤ sizeLine by decide, fun gl ngl => ?_⟩
    have exB : (upd HA gl (.lst [])) x = some (.ins C dx (pf3 (.ref ah) (.ref ap) (.ref Dl))) := by rw [upd_ne (ne_of_none exA ngl)]; exact exA
    refine ⟨.ref x, rfl, x, C, dx, _, rfl, exB, X.cl, X.nG, by show 3 < 1000; decide, ?_⟩
    rw [pf_4]
    refine ⟨show 0 ≤ sizeLine by decide, fun tl ntl => ?_⟩
    have ngx : gl ≠ x := (ne_of_none exA ngl).symm
    have egB : (upd (upd HA gl (.lst [])) x (.ins C dx (pf4 (.ref ah) (.ref ap) (.ref Dl) (.ref gl)))) gl = some (.lst []) := by rw [upd_ne ngx]; exact upd_same
    have exC : (upd (upd (upd HA gl (.lst [])) x (.ins C dx (pf4 (.ref ah) (.ref ap) (.ref Dl) (.ref gl)))) tl (.lst [])) x = some (.ins C dx (pf4 (.ref ah) (.ref ap) (.ref Dl) (.ref gl))) := by
      rw [upd_ne (ne_of_none upd_same ntl)]; exact upd_same
    refine ⟨.ref x, rfl, x, C, dx, _, rfl, exC, X.cl, X.nT, by show 4 < 1000; decide, ?_⟩
    rw [pf_5]
    have ntx : tl ≠ x := (ne_of_none (upd_same (H := upd HA gl (.lst [])) (a := x) (o := .ins C dx (pf4 (.ref ah) (.ref ap) (.ref Dl) (.ref gl)))) ntl).symm
    have ntg : tl ≠ gl := (ne_of_none egB ntl).symm
    have fgl : HA gl = none := ngl
    have ftl : HA tl = none := by rw [upd_ne ntx, upd_ne ntg] at ntl; exact ntl
    have nDg : Dl ≠ gl := ne_of_none eDA fgl
    have nDt : Dl ≠ tl := ne_of_none eDA ftl
    have nDav : Dl ∉ gl :: tl :: x :: av := fun m => by
      rcases List.mem_cons.mp m with m | m
      · exact nDg m
      · rcases List.mem_cons.mp m with m | m
        · exact nDt m
        · exact nD m
    have nds3 : ∀ z ∈ ds, z ∉ gl :: tl :: x :: av := fun z hz m => by
      obtain ⟨r, gr⟩ := List.mem_iff_getElem?.mp hz
      obtain ⟨ts, ez, _⟩ := rwA r z gr
      rcases List.mem_cons.mp m with m | m
      · exact ne_of_none ez fgl m
      · rcases List.mem_cons.mp m with m | m
        · exact ne_of_none ez ftl m
        · exact nds z hz m
    have fgH : H gl = none := by
      cases e : H gl with
      | none => rfl
      | some o => rw [kA gl o e (fun m => ngx (List.mem_singleton.mp m))] at fgl; cases fgl
    have ftH : H tl = none := by
      cases e : H tl with
      | none => rfl
      | some o => rw [kA tl o e (fun m => ntx (List.mem_singleton.mp m))] at ftl; cases ftl
    have m1 : gl ∈ gl :: tl :: x :: av := by simp
    have m2 : tl ∈ gl :: tl :: x :: av := by simp
    have m3 : x ∈ gl :: tl :: x :: av := by simp
    have exD := upd_same (H := upd (upd (upd HA gl (.lst [])) x (.ins C dx (pf4 (.ref ah) (.ref ap) (.ref Dl) (.ref gl)))) tl (.lst [])) (a := x) (o := .ins C dx (pf5 (.ref ah) (.ref ap) (.ref Dl) (.ref gl) (.ref tl)))
    have kD : Keep (gl :: tl :: x :: av) HA (upd (upd (upd (upd HA gl (.lst [])) x (.ins C dx (pf4 (.ref ah) (.ref ap) (.ref Dl) (.ref gl)))) tl (.lst [])) x (.ins C dx (pf5 (.ref ah) (.ref ap) (.ref Dl) (.ref gl) (.ref tl)))) := (((Keep.put m1).trans (Keep.put m3)).trans (Keep.put m2)).trans (Keep.put m3)
    have kDx : Keep [x] H (upd (upd (upd (upd HA gl (.lst [])) x (.ins C dx (pf4 (.ref ah) (.ref ap) (.ref Dl) (.ref gl)))) tl (.lst [])) x (.ins C dx (pf5 (.ref ah) (.ref ap) (.ref Dl) (.ref gl) (.ref tl)))) :=
      (((kA.trans (Keep.new ngl)).trans (Keep.put List.mem_cons_self)).trans (Keep.new ntl)).trans (Keep.put List.mem_cons_self)
    have egD : (upd (upd (upd (upd HA gl (.lst [])) x (.ins C dx (pf4 (.ref ah) (.ref ap) (.ref Dl) (.ref gl)))) tl (.lst [])) x (.ins C dx (pf5 (.ref ah) (.ref ap) (.ref Dl) (.ref gl) (.ref tl)))) gl = some (.lst []) := by
      rw [upd_ne ngx, upd_ne ntg.symm, upd_ne ngx]; exact upd_same
    have etD : (upd (upd (upd (upd HA gl (.lst [])) x (.ins C dx (pf4 (.ref ah) (.ref ap) (.ref Dl) (.ref gl)))) tl (.lst [])) x (.ins C dx (pf5 (.ref ah) (.ref ap) (.ref Dl) (.ref gl) (.ref tl)))) tl = some (.lst []) := by
      rw [upd_ne ntx]; exact upd_same
    have trD : Tr (gl :: tl :: x :: av) (upd (upd (upd (upd HA gl (.lst [])) x (.ins C dx (pf4 (.ref ah) (.ref ap) (.ref Dl) (.ref gl)))) tl (.lst [])) x (.ins C dx (pf5 (.ref ah) (.ref ap) (.ref Dl) (.ref gl) (.ref tl)))) := fun a m => by
      rcases List.mem_cons.mp m with m | m
      · rw [m]; exact ⟨_, egD⟩
      · rcases List.mem_cons.mp m with m | m
        · rw [m]; exact ⟨_, etD⟩
        · exact (((trA.upd).upd).upd).upd a m
    generalize upd (upd (upd (upd HA gl (.lst [])) x (.ins C dx (pf4 (.ref ah) (.ref ap) (.ref Dl) (.ref gl)))) tl (.lst [])) x (.ins C dx (pf5 (.ref ah) (.ref ap) (.ref Dl) (.ref gl) (.ref tl))) = HD at exD kD kDx egD etD trD ⊢
    have eaD := kDx ah _ ea (fun m => nax (List.mem_singleton.mp m))
    refine ⟨.ref ah, rfl, ah, [.int n, .ref ap], 0, .int n, rfl, rfl, SqT.of eaD, atI_nat (j := 0) rfl, n, rfl, by omega, by omega, for_range (lo := 0) (n := n.toNat)
      (fun i σ G => ∃ s2 s3 s4, σ = [some (.ref x), some (.ref ah), s2, s3, s4] ∧ Keep [x] H G ∧ Keep (gl :: tl :: x :: av) HA G ∧ Tr (gl :: tl :: x :: av) G ∧ G x = some (.ins C dx (pf5 (.ref ah) (.ref ap) (.ref Dl) (.ref gl) (.ref tl))) ∧
        ∃ gs ws : List Addr, gs.length = i ∧ ws.length = i ∧ G gl = some (.lst (gs.map V.ref)) ∧ G tl = some (.lst (ws.map V.ref)) ∧ (∀ (r : Nat) (z : Addr), gs[r]? = some z → z ∉ gl :: tl :: x :: av ∧ GapsAt G z n d (r : Int)) ∧ ∀ (r : Nat) (z : Addr), ws[r]? = some z → z ∉ gl :: tl :: x :: av ∧ TowAt (gl :: tl :: x :: av) G z n ps d (r : Int))
      ⟨_, _, _, rfl, kDx, kD, trD, exD, [], [], rfl, rfl, egD, etD, fun r z e => by simp at e, fun r z e => by simp at e⟩ (fun i σ G hi p => ?_) (fun σ G p => ?_)⟩
    · obtain ⟨s2, s3, s4, rfl, kG, kG2, trG, exG, gs, ws, lg, lw, eg, et, hg, hw⟩ := p
      have eDG := kG2 Dl _ eDA nDav
      have rwG : Rws (gl :: tl :: x :: av) G ds (fun r => doorsTo ps (r : Int) ps.length) 100 := by
        have z : Rws (gl :: tl :: x :: av) HA ds (fun r => doorsTo ps (r : Int) ps.length) 100 := by
          have z1 : Rws (tl :: x :: av) HA ds (fun r => doorsTo ps (r : Int) ps.length) 100 := rwA.more ftl
          exact z1.more fgl
        exact z.keep nds3 kG2
      refine ⟨.ref x, rfl, x, C, dx, _, .ref Dl, rfl, exG, X.cl, X.nD, pf_doors .., .int (0 + (i : Int)), rfl, Dl, ds, n, 0 + (i : Int), ps, d, gl :: tl :: x :: av, rfl, eDG, dl, rwG, hk, T, by omega, by omega, trG, fun G1 t g w k1 tr1 nt ng nw etp gp tw => ?_⟩
      refine ⟨t, [.ref g, .ref w], rfl, SqT.of etp, rfl, _, _, rfl, _, [], rfl, rfl, ?_⟩
      have ex1 := k1 x _ exG List.not_mem_nil
      have eg1 := k1 gl _ eg List.not_mem_nil
      have et1 := k1 tl _ et List.not_mem_nil
      refine ⟨.ref x, rfl, x, C, dx, _, .ref gl, rfl, ex1, X.cl, X.nG, pf_gaps .., .inl ⟨rfl, _, SqL.of eg1⟩, .ref g, rfl, gl, _, _, rfl, rfl, eg1, by rw [List.length_map]; exact Nat.lt_of_lt_of_le (by omega : gs.length < 1000) (small1000 (by omega)), ?_⟩
      have ex2 : (upd G1 gl (.lst (gs.map V.ref ++ [.ref g]))) x = some (.ins C dx (pf5 (.ref ah) (.ref ap) (.ref Dl) (.ref gl) (.ref tl))) := by rw [upd_ne ngx.symm]; exact ex1
      have et2 : (upd G1 gl (.lst (gs.map V.ref ++ [.ref g]))) tl = some (.lst (ws.map V.ref)) := by rw [upd_ne ntg]; exact et1
      refine ⟨.ref x, rfl, x, C, dx, _, .ref tl, rfl, ex2, X.cl, X.nT, pf_tow .., .inl ⟨rfl, _, SqL.of et2⟩, .ref w, rfl, tl, _, _, rfl, rfl, et2, by rw [List.length_map]; exact Nat.lt_of_lt_of_le (by omega : ws.length < 1000) (small1000 (by omega)), ?_⟩
      have kF : Keep (gl :: tl :: x :: av) G1 (upd (upd G1 gl (.lst (gs.map V.ref ++ [.ref g]))) tl (.lst (ws.map V.ref ++ [.ref w]))) := (Keep.put m1).trans (Keep.put m2)
      have kF0 : Keep (gl :: tl :: x :: av) G (upd (upd G1 gl (.lst (gs.map V.ref ++ [.ref g]))) tl (.lst (ws.map V.ref ++ [.ref w]))) := k1.of.trans kF
      have i0 : (0 + (i : Int)) = (i : Int) := by omega
      rw [i0] at gp tw
      refine ⟨_, _, _, rfl, ?_, kG2.trans kF0, (tr1.upd).upd, by rw [upd_ne ntx.symm]; exact ex2, gs ++ [g], ws ++ [w], by rw [List.length_append, lg]; rfl, by rw [List.length_append, lw]; rfl, ?_, ?_, fun r z e => ?_, fun r z e => ?_⟩
      · exact ((kG.trans k1.of).upd fgH).upd ftH
      · rw [upd_ne ntg.symm, upd_same, List.map_append]; rfl
      · rw [upd_same, List.map_append]; rfl
      · by_cases c : r < gs.length
        · rw [List.getElem?_append_left c] at e
          exact ⟨(hg r z e).1, (hg r z e).2.keep (hg r z e).1 kF0⟩
        · rw [List.getElem?_append_right (by omega)] at e
          have c2 : r - gs.length = 0 := by
            apply Classical.byContradiction
            intro c2
            rw [List.getElem?_eq_none (by simp; omega)] at e; cases e
          rw [c2] at e
          cases e
          have cr : r = i := by omega
          subst cr
          exact ⟨ng, gp.keep ng kF⟩
      · by_cases c : r < ws.length
        · rw [List.getElem?_append_left c] at e
          exact ⟨(hw r z e).1, (hw r z e).2.keep (hw r z e).1 kF0⟩
        · rw [List.getElem?_append_right (by omega)] at e
          have c2 : r - ws.length = 0 := by
            apply Classical.byContradiction
            intro c2
            rw [List.getElem?_eq_none (by simp; omega)] at e; cases e
          rw [c2] at e
          cases e
          have cr : r = i := by omega
          subst cr
          exact ⟨nw, tw.keep nw kF⟩
    · obtain ⟨s2, s3, s4, rfl, kG, kG2, trG, exG, gs, ws, lg, lw, eg, et, hg, hw⟩ := p
      have sub : ∀ a ∈ av, a ∈ gl :: tl :: x :: av := fun a m => by simp [m]
      have f : ∀ {z : Addr}, z ∉ gl :: tl :: x :: av → z ∉ av := fun nz m => nz (sub _ m)
      have f1 : ∀ {z : Addr}, z ∉ x :: av → z ∉ av := fun nz m => nz (List.mem_cons_of_mem _ m)
      have kav : Keep (x :: av) H G := kG.mono (fun z m => by rw [List.mem_singleton.mp m]; exact List.mem_cons_self)
      have rwG : Rws (gl :: tl :: x :: av) G ds (fun r => doorsTo ps (r : Int) ps.length) 100 := by
        have z : Rws (gl :: tl :: x :: av) HA ds (fun r => doorsTo ps (r : Int) ps.length) 100 := by
          have z1 : Rws (tl :: x :: av) HA ds (fun r => doorsTo ps (r : Int) ps.length) 100 := rwA.more ftl
          exact z1.more fgl
        exact z.keep nds3 kG2
      refine q G kG (fun a m => trG a (sub a m)) ⟨dx, ah, ap, Dl, gl, tl, xp, ds, gs, ws, nx, exG, f1 na, kav ah _ ea na, f1 nb, kav ap _ eb nb, (db.keep kav).less (fun a m => List.mem_cons_of_mem _ m), f nDav, kG2 Dl _ eDA nDav, dl, fun z m => f (nds3 z m), rwG.less sub, ?_, eg, lg, fun r z e => ⟨f (hg r z e).1, (hg r z e).2⟩, ?_, et, lw, fun r z e => ⟨f (hw r z e).1, (hw r z e).2.less sub⟩⟩
      · exact tr.not fgH
      · exact tr.not ftH
end
end Rw

namespace Rw
open PySem PySem.Spec PyProof.Rows L2
/-! ### how far places lie apart -/
def onePipe (p q : Pl) : Bool := decide (p.length = 2) && (decide (q.length = 2) && decide (p.headD 0 = q.headD 0))
def exitsL (ps : List Pi) : Pl → List (List Int)
  | [r] => [[r, 0]]
  | [i, a] => [[(pr ps i).x, a], [(pr ps i).y, (pr ps i).l - a]]
  | _ => []
theorem Dt.nil {av : List Addr} {H : Hp} {v : V} {d : PyData} (h : Dt av H v d) : Dt [] H v d := h.less fun _ m => nomatch m
section
variable {P : Program} {w : World} {K : PySem.W.Frag} {mg : Str → Option Value} {base : Heap}
abbrev sOnePipe : Stmt := topS 38
abbrev nOnePipe : List Str := ["one", "other"]
theorem scOnePipe : FnScope nOnePipe ["one", "other"] (defScope sOnePipe) := ⟨rfl, rfl, rfl, by decide +kernel, rfl, by decide +kernel, by decide +kernel⟩
def spOnePipe : Sp := fun vs H Q _ => ∃ (o1 o2 : V) (p q : Pl), vs = [o1, o2] ∧ Dt [] H o1 (tupI p) ∧ Dt [] H o2 (tupI q) ∧ p ≠ [] ∧ q ≠ [] ∧ Q (.bl (onePipe p q)) H
theorem ok_onePipe (h : Has K mg "are_in_one_pipe" sOnePipe) (B : Blt mg) : Can P w K mg base "are_in_one_pipe" ["one", "other"] 1 spOnePipe := by
  obtain ⟨f, fd, F, g⟩ := h
  refine ⟨f, fd, F.ok (k := 0) scOnePipe (fun vs H Q E h => ?_) (fun cdv A outer s H vs Q E hr h => ?_), g, F.kp, F.binds fun _ _ _ _ _ _ us hl => match us, hl with | [_, _], _ => rfl⟩
  · obtain ⟨o1, o2, p, q, rfl, _⟩ := h
    rfl
  · obtain ⟨o1, o2, p, q, rfl, h1, h2, n1, n2, k⟩ := h
    refine ⟨_, pss_one (ps_ret (pe_and (pe_cmpR op_eq (pe_callB call_len_seq (by rfl) B.len_ PySem.boot_len (pa_cons (pv 0) pa_nil)) pe_int (nomark _)) (pe_and (pe_cmpR op_eq (pe_callB call_len_seq (by rfl) B.len_ PySem.boot_len (pa_cons (pv 1) pa_nil)) pe_int (nomark _)) (pe_one (pe_cmpR op_eq (pe_ix ix_tup (pv 0) pe_int (fun _ _ => rfl)) (pe_ix ix_tup (pv 1) pe_int (fun _ _ => rfl)) (nomark _)))))), ?_⟩
    obtain ⟨a1, rfl, _, e1⟩ := tupI_at h1
    obtain ⟨a2, rfl, _, e2⟩ := tupI_at h2
    obtain ⟨x, xs, rfl⟩ := List.exists_cons_of_ne_nil n1
    obtain ⟨y, ys, rfl⟩ := List.exists_cons_of_ne_nil n2
    have l1 : decide (V.int (((x :: xs).map V.int).length : Int) = V.int 2) = decide ((x :: xs).length = 2) := by
      rw [List.length_map]; exact decide_eq_decide.mpr ⟨fun z => by have := V.int.inj z; omega, fun z => by rw [z]; rfl⟩
    have l2 : decide (V.int (((y :: ys).map V.int).length : Int) = V.int 2) = decide ((y :: ys).length = 2) := by
      rw [List.length_map]; exact decide_eq_decide.mpr ⟨fun z => by have := V.int.inj z; omega, fun z => by rw [z]; rfl⟩
    refine ⟨.ref a1, rfl, a1, _, rfl, .inr (SqT.of e1), rfl, _, rfl, ?_⟩
    rw [l1]
    unfold onePipe at k
    cases c1 : decide ((x :: xs).length = 2) with
    | false => rw [c1] at k; exact iteF k
    | true =>
      rw [c1] at k
      refine iteT ⟨.ref a2, rfl, a2, _, rfl, .inr (SqT.of e2), rfl, _, rfl, ?_⟩
      rw [l2]
      cases c2 : decide ((y :: ys).length = 2) with
      | false => rw [c2] at k; exact iteF k
      | true =>
        rw [c2] at k
        refine iteT ⟨.ref a1, rfl, a1, _, 0, .int x, rfl, rfl, SqT.of e1, atI_nat (j := 0) rfl, .ref a2, rfl, a2, _, 0, .int y, rfl, rfl, SqT.of e2, atI_nat (j := 0) rfl, rfl, ?_⟩
        have z : decide (V.int x = V.int y) = decide ((x :: xs).headD 0 = (y :: ys).headD 0) := decide_eq_decide.mpr ⟨fun z => V.int.inj z, fun z => congrArg V.int z⟩
        rw [z]; exact k
abbrev sExits : Stmt := topS 39
abbrev nExits : List Str := ["plan", "place", "one", "other", "length"]
theorem scExits : FnScope nExits ["plan", "place"] (defScope sExits) := ⟨rfl, rfl, rfl, by decide +kernel, rfl, by decide +kernel, by decide +kernel⟩
def spExits (C : Addr) : Sp := fun vs H Q _ => ∃ (a : Addr) (v : V) (n : Int) (ps : List Pi) (d : Int → Int → Int) (p : Pl) (av : List Addr), vs = [.ref a, v] ∧ PlanAt C [] H a n ps d ∧ Dt [] H v (tupI p) ∧ okP n ps p ∧ Tr av H ∧
  ∀ (H' : Hp) (l : Addr) (us : List V), Keep [] H H' → l ∉ av → H' l = some (.lst us) → Dts av H' us ((exitsL ps p).map tupI) → Q (.ref l) H'
theorem ok_exits {C : Addr} (h : Has K mg "exits_of" sExits) (B : Blt mg) (X : PlanTxt K C) : Can P w K mg base "exits_of" ["plan", "place"] 1 (spExits C) := by
  obtain ⟨f, fd, F, g⟩ := h
  refine ⟨f, fd, F.ok (k := 0) scExits (fun vs H Q E h => ?_) (fun cdv A outer s H vs Q E hr h => ?_), g, F.kp, F.binds fun _ _ _ _ _ _ us hl => match us, hl with | [_, _], _ => rfl⟩
  · obtain ⟨a, v, n, ps, d, p, av, rfl, _⟩ := h
    rfl
  · obtain ⟨a, v, n, ps, d, p, av, rfl, pl, hv, ok, tr, k⟩ := h
    refine ⟨_, pss_cons (ps_if (pt_cmpR op_eq (pe_callB call_len_seq (by rfl) B.len_ PySem.boot_len (pa_cons (pv 1) pa_nil)) pe_int (nomark _)) (pss_one (ps_ret (pe_lst (pa_cons (pe_tup (pa_cons (pe_ix ix_tup (pv 1) pe_int (fun _ _ => rfl)) (pa_cons pe_int pa_nil))) pa_nil)))) pss_nil)
      (pss_cons (ps_asg (pe_slice sl_tup (pe_ix ix_tup (pe_fld (pv 0) rfl) (pe_ix ix_tup (pv 1) pe_int (fun _ _ => rfl)) (fun _ _ => rfl)) po_none (po_some pe_int)) (pg_tup (by rfl) (pgs_cons (pg_name (i := 2) scExits.nd rfl (by first | exact Or.inl rfl | exact Or.inr rfl)) (pgs_cons (pg_name (i := 3) scExits.nd rfl (by first | exact Or.inl rfl | exact Or.inr rfl)) (pgs_cons (pg_name (i := 4) scExits.nd rfl (by first | exact Or.inl rfl | exact Or.inr rfl)) pgs_nil)))))
      (pss_one (ps_ret (pe_lst (pa_cons (pe_tup (pa_cons (pv 2) (pa_cons (pe_ix ix_tup (pv 1) pe_int (fun _ _ => rfl)) pa_nil))) (pa_cons (pe_tup (pa_cons (pv 3) (pa_cons (pe_op op_sub (pv 4) (pe_ix ix_tup (pv 1) pe_int (fun _ _ => rfl))) pa_nil))) pa_nil)))))), ?_⟩
    obtain ⟨a1, rfl, _, e1⟩ := tupI_at hv
    rcases ok_cases ok with ⟨r, rfl, r0, r1⟩ | ⟨i, b, rfl, h0, h1, b0, b1⟩
    · refine ⟨.ref a1, rfl, a1, _, rfl, .inr (SqT.of e1), rfl, true, rfl, iteT ?_⟩
      refine ⟨.ref a1, rfl, a1, _, 0, .int r, rfl, rfl, SqT.of e1, atI_nat (j := 0) rfl, show 2 ≤ sizeLine by decide, fun t nt => ⟨show 1 ≤ sizeLine by decide, fun l nl => ?_⟩⟩
      exact k _ l _ ((Keep.new nt).trans (Keep.new nl)) ((tr.upd).not nl) upd_same (.cons (.tup (tr.not nt) (Keep.new (av := []) nl t _ upd_same List.not_mem_nil) (Dts.ints [r, 0])) .nil)
    · refine ⟨.ref a1, rfl, a1, _, rfl, .inr (SqT.of e1), rfl, false, rfl, iteF ?_⟩
      obtain ⟨dx, hb, pp, dl, gl, tl, xp, ds, gs, ws, a1', a2, a3, a4, a5, a6, a7, _⟩ := pl
      obtain ⟨p, pa, T1, T2, mp, gp, ga, epa⟩ := pi_at a7 h0 h1
      have epr : p = pr ps i := by
        have z := (pr_mem h0 h1).2
        rw [z] at gp; exact (Option.some.inj gp).symm
      subst epr
      refine ⟨.ref a, rfl, a, C, dx, _, .ref pp, rfl, a2, X.cl, X.nP, pf_pipes .., .ref a1, rfl, a1, _, 0, .int i, rfl, rfl, SqT.of e1, atI_nat (j := 0) rfl, pp, xp, i, .ref pa, rfl, rfl, SqT.of a6, ga, 3, rfl, pa, [.int (pr ps i).x, .int (pr ps i).y, .int (pr ps i).l, .ref T1, .ref T2], rfl, SqT.of epa, show ¬ (HT.sIx 5 0 none = 0 ∧ HT.sIx 5 5 (some 3) = 5) by decide +kernel, fun T3 nT3 => ?_⟩
      refine ⟨T3, [.int (pr ps i).x, .int (pr ps i).y, .int (pr ps i).l], rfl, SqT.of (upd_same.trans (congrArg some (congrArg HO.tup (cut_to _ 3)))), rfl, _, _, rfl, _, _, rfl, _, [], rfl, rfl, ?_⟩
      have e2 := Keep.new (av := []) (o := .tup (cutV [V.int (pr ps i).x, .int (pr ps i).y, .int (pr ps i).l, .ref T1, .ref T2] none (some 3))) nT3 a1 _ e1 List.not_mem_nil
      refine ⟨.int (pr ps i).x, rfl, .ref a1, rfl, a1, _, 1, .int b, rfl, rfl, SqT.of e2, atI_nat (j := 1) rfl, show 2 ≤ sizeLine by decide, fun t nt => ?_⟩
      have e3 := Keep.new (av := []) (o := .tup [.int (pr ps i).x, .int b]) nt a1 _ e2 List.not_mem_nil
      refine ⟨.int (pr ps i).y, rfl, .int (pr ps i).l, rfl, .ref a1, rfl, a1, _, 1, .int b, rfl, rfl, SqT.of e3, atI_nat (j := 1) rfl, (pr ps i).l, b, rfl, rfl, show 2 ≤ sizeLine by decide, fun u nu => ⟨show 2 ≤ sizeLine by decide, fun l nl => ?_⟩⟩
      have kl : Keep [] _ _ := Keep.new (av := []) (o := .lst [.ref t, .ref u]) nl
      have ku : Keep [] _ _ := Keep.new (av := []) (o := .tup [.int (pr ps i).y, .int ((pr ps i).l - b)]) nu
      exact k _ l _ ((Keep.new nT3).trans ((Keep.new nt).trans (ku.trans kl))) ((((tr.upd).upd).upd).not nl) upd_same
        (.cons (.tup ((tr.upd).not nt) (kl t _ (ku t _ upd_same List.not_mem_nil) List.not_mem_nil) (Dts.ints [(pr ps i).x, b])) (.cons (.tup (((tr.upd).upd).not nu) (kl u _ upd_same List.not_mem_nil) (Dts.ints [(pr ps i).y, (pr ps i).l - b])) .nil))
end
end Rw

namespace Rw
open PySem PySem.Spec PyProof.Rows L2
theorem hu10 {k : Nat} {A : Around} (hr : Room k A) : A.units + 10 < cLine := by have := hr.units; omega
/-! the rows that are compared -/
def trip (d : Int → Int → Int) (e f : List Int) : List Int := [e.getD 1 0 + d (e.getD 0 0) (f.getD 0 0) + f.getD 1 0, e.getD 0 0, f.getD 0 0]
def trips (ps : List Pi) (d : Int → Int → Int) (p q : Pl) : List (List Int) := (exitsL ps p).flatMap fun e => (exitsL ps q).map (trip d e)
theorem exits_ok {n : Int} {ps : List Pi} {d : Int → Int → Int} (T : Tm n ps d) {p : Pl} (h : okP n ps p) : ∀ e ∈ exitsL ps p, ∃ r b, e = [r, b] ∧ 0 ≤ r ∧ r < n := by
  intro e he
  rcases ok_cases h with ⟨r, rfl, r0, r1⟩ | ⟨i, b, rfl, h0, h1, b0, b1⟩
  · rw [List.mem_singleton.mp (show e ∈ [[r, 0]] from he)]; exact ⟨r, 0, rfl, r0, r1⟩
  · obtain ⟨x0, x1, y0, y1, _⟩ := T.at h0 h1
    rcases List.mem_cons.mp (show e ∈ [[(pr ps i).x, b], [(pr ps i).y, (pr ps i).l - b]] from he) with rfl | he
    · exact ⟨_, _, rfl, x0, x1⟩
    · rw [List.mem_singleton.mp he]; exact ⟨_, _, rfl, y0, y1⟩
theorem exits_few (ps : List Pi) (p : Pl) : (exitsL ps p).length ≤ 2 := by
  unfold exitsL
  split <;> simp
theorem exits_ne {n : Int} {ps : List Pi} {p : Pl} (h : okP n ps p) : exitsL ps p ≠ [] := by
  rcases ok_cases h with ⟨r, rfl, _⟩ | ⟨i, b, rfl, _⟩
  · intro z; cases z
  · intro z; cases z
theorem lay_tups : ∀ nss : List (List Int), PyData.canLayAll0 (nss.map tupI) = true
  | [] => by simp only [List.map_nil, PyData.canLayAll0]
  | n :: ns => by
    rw [List.map_cons]
    show (PyData.canLay0 (.tuple (n.map .int)) && PyData.canLayAll0 (ns.map tupI)) = true
    rw [lay_tups ns, Bool.and_true]
    show PyData.canLay0 (.tuple (n.map .int)) = true
    simp only [PyData.canLay0, tupI_lay n]
section
variable {P : Program} {w : World} {K : PySem.W.Frag} {mg : Str → Option Value} {base : Heap}
abbrev sShort : Stmt := topS 40
abbrev nShort : List Str := ["plan", "one", "other", "near", "begin", "far", "end"]
theorem scShort : FnScope nShort ["plan", "one", "other"] (defScope sShort) := ⟨rfl, rfl, rfl, by decide +kernel, rfl, by decide +kernel, by decide +kernel⟩
def spShort (C : Addr) : Sp := fun vs H Q _ => ∃ (a : Addr) (o1 o2 : V) (n : Int) (ps : List Pi) (d : Int → Int → Int) (p q : Pl), vs = [.ref a, o1, o2] ∧ PlanAt C [] H a n ps d ∧ Tm n ps d ∧ Dt [] H o1 (tupI p) ∧ Dt [] H o2 (tupI q) ∧ okP n ps p ∧ okP n ps q ∧
  ∀ (H' : Hp) (v : V) (ns : List Int), Keep [] H H' → Dt [] H' v (tupI ns) → ns ∈ trips ps d p q → (∀ m ∈ trips ps d p q, ns.headD 0 ≤ m.headD 0) → Q v H'
theorem ok_short {C : Addr} (h : Has K mg "shortest" sShort) (B : Blt mg) (X : PlanTxt K C) (CE : Can P w K mg base "exits_of" ["plan", "place"] 1 (spExits C)) : Can P w K mg base "shortest" ["plan", "one", "other"] 2 (spShort C) := by
  obtain ⟨f, fd, F, g⟩ := h
  refine ⟨f, fd, F.ok (k := 1) scShort (fun vs H Q E h => ?_) (fun cdv A outer s H vs Q E hr h => ?_), g, F.kp, F.binds fun _ _ _ _ _ _ us hl => match us, hl with | [_, _, _], _ => rfl⟩
  · obtain ⟨a, o1, o2, n, ps, d, p, q, rfl, _⟩ := h
    rfl
  · obtain ⟨a, o1, o2, n, ps, d, p, q, rfl, pl, T, h1, h2, okp, okq, k⟩ := h
    refine ⟨_, pss_one (ps_ret (pe_callB (cr_minT rfl (hu10 hr)) (by rfl) B.min_ boot_min (pa_cons (pe_lc2 (own := [("near", 3), ("begin", 4), ("far", 5), ("end", 6)]) (vs1 := [5, 6]) (tt := tYes) (tt1 := tYes) rfl scShort.nd (pi_list (pe_can CE (hr.mono (by decide)) (by rfl) (pa_cons (pv 0) (pa_cons (pv 1) pa_nil)))) (blkOk_by (N := nShort) (sc := defScope sShort) (by decide +kernel)) (by decide) (fun _ _ _ _ _ => (pg_tupK (K := K) (n := 2) rfl (by rfl) (pgs_cons (pg_name (i := 3) scShort.nd rfl (by first | exact Or.inl rfl | exact Or.inr rfl)) (pgs_cons (pg_name (i := 4) scShort.nd rfl (by first | exact Or.inl rfl | exact Or.inr rfl)) pgs_nil)))) (fun _ _ _ _ _ => pts_nil) (fun _ _ _ _ _ => (pi_listK (K := K) rfl (pe_can CE (hr.mono (by decide)) (by rfl) (pa_cons (pv 0) (pa_cons (pv 2) pa_nil))))) (fun _ _ _ _ _ => (pg_tupK (K := K) (n := 2) rfl (by rfl) (pgs_cons (pg_name (i := 5) scShort.nd rfl (by first | exact Or.inl rfl | exact Or.inr rfl)) (pgs_cons (pg_name (i := 6) scShort.nd rfl (by first | exact Or.inl rfl | exact Or.inr rfl)) pgs_nil)))) (fun _ _ _ _ _ => pts_nil) (fun _ _ _ _ _ => (pe_tup (pa_cons (pe_op op_add (pe_op op_add (pv 4) (pe_dget (hu_of hr) (pe_ix (ix_listK (K := K) rfl) (pe_fldK (K := K) rfl (pv 0) rfl) (pv 3) (fun _ _ => rfl)) (pv 5) (fun _ _ => rfl))) (pv 6)) (pa_cons (pv 3) (pa_cons (pv 5) pa_nil)))))) pa_nil))), ?_⟩
    refine ⟨.ref a, rfl, o1, rfl, a, o1, n, ps, d, p, [], rfl, pl, h1, okp, (show Tr [] H from fun _ m => absurd m List.not_mem_nil), fun H1 l1 us k1 _ el1 du1 => ?_⟩
    refine ⟨l1, rfl, ⟨_, SqL.of el1⟩, fun D nD => ?_⟩
    have nl1 : l1 ≠ D := ne_of_none el1 nD
    have duD := du1.more nD
    have ul : us.length = (exitsL ps p).length := by rw [du1.len, List.length_map]
    have few1 := exits_few ps p
    have few2 := exits_few ps q
    refine ⟨fun i m G => m = us.length - i ∧ i ≤ us.length ∧ Keep [] H1 G ∧ ∃ acc : List V, G D = some (.lst acc) ∧ acc.length ≤ 2 * i ∧ Dts [D] G acc ((((exitsL ps p).take i).flatMap fun e => (exitsL ps q).map (trip d e)).map tupI), ⟨_, rfl, Nat.zero_le _, Keep.new nD, [], upd_same, Nat.zero_le _, .nil⟩, fun i m G z => ?_⟩
    obtain ⟨rfl, hi, kG, acc, eG, lG, dG⟩ := z
    have elG := kG l1 _ el1 List.not_mem_nil
    by_cases c : i < us.length
    · refine .inr ⟨⟨_, us[i], SqL.of elG, List.getElem?_eq_getElem c⟩, fun G' => Keep [] H1 G' ∧ ∃ acc : List V, G' D = some (.lst acc) ∧ acc.length ≤ 2 * (i + 1) ∧ Dts [D] G' acc ((((exitsL ps p).take (i + 1)).flatMap fun e => (exitsL ps q).map (trip d e)).map tupI), fun G' z => ⟨us.length - (i + 1), by omega, rfl, by omega, z⟩, fun x G' y => ?_⟩
      obtain ⟨rfl, hy⟩ := y
      have gx := hy us (SqL.of elG)
      have dG1 : Dts [D] G' us ((exitsL ps p).map tupI) := duD.keep kG.of
      obtain ⟨dd, gd, dx⟩ := dG1.getv i gx
      rw [List.getElem?_map] at gd
      obtain ⟨e, ge, rfl⟩ := Option.map_eq_some_iff.mp gd
      obtain ⟨r, b, rfl, r0, r1⟩ := exits_ok T okp e (List.mem_of_getElem? ge)
      obtain ⟨Te, rfl, _, eTe⟩ := tupI_at dx
      refine ⟨Te, [.int r, .int b], rfl, SqT.of eTe, rfl, _, _, rfl, _, [], rfl, rfl, rfl, ?_⟩
      have trD : Tr [D] G' := fun z m => by rw [List.mem_singleton.mp m]; exact ⟨_, eG⟩
      have plG := pl.keep (k1.trans kG)
      refine ⟨.ref a, rfl, o2, rfl, a, o2, n, ps, d, q, [D], rfl, plG, h2.keep (k1.trans kG), okq, trD, fun H4 l2 us2 k4 nl2 el2 du2 => ?_⟩
      have nl2D : l2 ≠ D := fun z => nl2 (by rw [z]; exact List.mem_cons_self)
      have ul2 : us2.length = (exitsL ps q).length := by rw [du2.len, List.length_map]
      refine ⟨l2, rfl, ⟨_, SqL.of el2⟩, ?_⟩
      refine ⟨fun j m J => m = us2.length - j ∧ j ≤ us2.length ∧ Keep [] H1 J ∧ Keep [D] H4 J ∧ ∃ acc : List V, J D = some (.lst acc) ∧ acc.length ≤ 2 * i + j ∧ Dts [D] J acc (((((exitsL ps p).take i).flatMap fun e => (exitsL ps q).map (trip d e)) ++ ((exitsL ps q).take j).map (trip d [r, b])).map tupI), ⟨_, rfl, Nat.zero_le _, kG.trans k4, Keep.refl _ _, acc, k4 D _ eG List.not_mem_nil, by omega, by rw [List.take_zero, List.map_nil, List.append_nil]; exact dG.keep k4.of⟩, fun j m J z => ?_⟩
      obtain ⟨rfl, hj, kJ, kJ4, acc, eJ, lJ, dJ⟩ := z
      have el2J := kJ4 l2 _ el2 nl2
      by_cases c2 : j < us2.length
      · refine .inr ⟨⟨_, us2[j], SqL.of el2J, List.getElem?_eq_getElem c2⟩, fun J' => Keep [] H1 J' ∧ Keep [D] H4 J' ∧ ∃ acc : List V, J' D = some (.lst acc) ∧ acc.length ≤ 2 * i + (j + 1) ∧ Dts [D] J' acc (((((exitsL ps p).take i).flatMap fun e => (exitsL ps q).map (trip d e)) ++ ((exitsL ps q).take (j + 1)).map (trip d [r, b])).map tupI), fun J' z => ⟨us2.length - (j + 1), by omega, rfl, by omega, z⟩, fun x J' y => ?_⟩
        obtain ⟨rfl, hy⟩ := y
        have gx2 := hy us2 (SqL.of el2J)
        obtain ⟨dd, gd2, dx2⟩ := (du2.keep kJ4).getv j gx2
        rw [List.getElem?_map] at gd2
        obtain ⟨e2, ge2, rfl⟩ := Option.map_eq_some_iff.mp gd2
        obtain ⟨s2, b2, rfl, s0, s1⟩ := exits_ok T okq e2 (List.mem_of_getElem? ge2)
        obtain ⟨Tf, rfl, _, eTf⟩ := tupI_at dx2
        obtain ⟨dxx, hb, pp, dl, gl, tl, xp, ds, gs, ws, a1, a2, a3, a4, a5, a6, a7, a8, a9, b1, b2', b3, b4, b5, b6, b7, _⟩ := pl.keep (k1.trans kJ)
        obtain ⟨gz, ggz⟩ : ∃ gz, gs[r.toNat]? = some gz := ⟨_, List.getElem?_eq_getElem (by omega)⟩
        obtain ⟨_, kvs, ekv, hkv⟩ := b7 r.toNat gz ggz
        have hval : valV kvs (Sum.inl s2) = some (.int (d r s2)) := by
          have z := hkv s2 s0 s1
          rw [show ((r.toNat : Nat) : Int) = r by omega] at z; exact z
        refine ⟨Tf, [.int s2, .int b2], rfl, SqT.of eTf, rfl, _, _, rfl, _, [], rfl, rfl, rfl, ?_⟩
        refine ⟨.int b, rfl, .ref a, rfl, a, C, dxx, _, .ref gl, rfl, a2, X.cl, X.nG, pf_gaps .., .int r, rfl, gl, _, r, .ref gz, rfl, rfl, SqL.of b5, atI_of r0 (by rw [List.getElem?_map, ggz]; rfl), .int s2, rfl, gz, .int (d r s2), rfl, by rw [← hval]; exact DGet.k (k := Sum.inl s2) ekv, b, d r s2, rfl, rfl, .int b2, rfl, b + d r s2, b2, rfl, rfl, .int r, rfl, .int s2, rfl, show 3 ≤ sizeLine by decide, fun t nt => ?_⟩
        have ntD : t ≠ D := (ne_of_none eJ nt).symm
        refine ⟨acc, by rw [upd_ne ntD.symm]; exact eJ, Nat.lt_of_lt_of_le (by omega : acc.length < 1000) (small1000 (by omega)), ?_⟩
        have kt : Keep [] J' (upd J' t (.tup [.int (b + d r s2 + b2), .int r, .int s2])) := Keep.new nt
        refine ⟨(kJ.trans kt).upd nD, (kJ4.trans kt.of).trans (Keep.put List.mem_cons_self), acc ++ [.ref t], upd_same, by rw [List.length_append, List.length_singleton]; omega, ?_⟩
        have tk : ((exitsL ps q).take (j + 1)).map (trip d [r, b]) = ((exitsL ps q).take j).map (trip d [r, b]) ++ [[b + d r s2 + b2, r, s2]] := by rw [List.take_add_one, ge2, List.map_append]; rfl
        rw [tk, ← List.append_assoc, List.map_append]
        exact ((dJ.keep kt.of).keep (Keep.put List.mem_cons_self)).app (.cons (.tup (fun m => ntD (List.mem_singleton.mp m)) (by rw [upd_ne ntD]; exact upd_same) (Dts.ints [b + d r s2 + b2, r, s2])) .nil)
      · refine .inl ⟨⟨_, SqL.of el2J, by omega⟩, kJ, acc, eJ, by omega, ?_⟩
        have ej : j = (exitsL ps q).length := by omega
        have tk : ((exitsL ps p).take (i + 1)).flatMap (fun e => (exitsL ps q).map (trip d e)) = ((exitsL ps p).take i).flatMap (fun e => (exitsL ps q).map (trip d e)) ++ (exitsL ps q).map (trip d [r, b]) := by rw [List.take_add_one, ge, List.flatMap_append]; simp
        rw [tk]
        rw [ej, List.take_length] at dJ
        exact dJ
    · have ei : i = (exitsL ps p).length := by omega
      rw [ei, List.take_length] at dG
      refine .inl ⟨⟨_, SqL.of elG, by omega⟩, ?_⟩
      have dG' : Dts [D] G acc ((trips ps d p q).map tupI) := dG
      obtain ⟨ns, nss, et⟩ : ∃ ns nss, trips ps d p q = ns :: nss := by
        obtain ⟨e, es, h1⟩ := List.exists_cons_of_ne_nil (exits_ne okp)
        obtain ⟨f, fs, h2⟩ := List.exists_cons_of_ne_nil (exits_ne okq)
        refine ⟨trip d e f, fs.map (trip d e) ++ es.flatMap (fun e => (exitsL ps q).map (trip d e)), ?_⟩
        unfold trips
        rw [h1, List.flatMap_cons, h2]; rfl
      rw [et] at dG'
      refine ⟨D, acc, ns, nss, rfl, SqL.of eG, Dts.dp _ _ dG' (lay_tups _), fun t v gv gm => ?_⟩
      have gd : ((ns :: nss).map tupI)[t]? = some (tupI (minL ns nss)) := by rw [List.getElem?_map, gm]; rfl
      obtain ⟨v', gv', dv⟩ := dG'.get t gd
      rw [gv] at gv'; cases gv'
      refine k G v (minL ns nss) (k1.trans kG) dv.nil (by rw [et]; exact minL_mem ns nss) ?_
      rw [et]
      refine minL_head nss ns (fun y hy => ?_)
      rw [← et] at hy
      obtain ⟨e, _, h⟩ := List.mem_flatMap.mp hy
      obtain ⟨f', _, rfl⟩ := List.mem_map.mp h
      intro z; cases z
end
end Rw

namespace Rw
open PySem PySem.Spec PyProof.Rows L2
theorem trips_min {n : Int} {ps : List Pi} {d : Int → Int → Int} (T : Tm n ps d) {p q : Pl} (hp : okP n ps p) (hq : okP n ps q) (ne : onePipe p q = false) {ns : List Int} (m : ns ∈ trips ps d p q) (h : ∀ x ∈ trips ps d p q, ns.headD 0 ≤ x.headD 0) : ns.headD 0 = Dp ps d p q := by
  rcases ok_cases hp with ⟨r, rfl, r0, r1⟩ | ⟨i, b, rfl, h0, h1, b0, b1⟩ <;> rcases ok_cases hq with ⟨t, rfl, t0, t1⟩ | ⟨j, a, rfl, k0, k1, a0, a1⟩
  · have m' : ns ∈ [[0 + d r t + 0, r, t]] := m
    rw [List.mem_singleton.mp m']
    show 0 + d r t + 0 = d r t
    omega
  · have e : trips ps d [r] [j, a] = [[0 + d r (pr ps j).x + a, r, (pr ps j).x], [0 + d r (pr ps j).y + ((pr ps j).l - a), r, (pr ps j).y]] := rfl
    rw [e] at m h
    have g1 := h _ List.mem_cons_self
    have g2 := h _ (List.mem_cons_of_mem _ List.mem_cons_self)
    simp only [List.headD_cons] at g1 g2
    show _ = dr ps d r j a
    unfold dr
    rcases List.mem_cons.mp m with rfl | m
    · simp only [List.headD_cons] at g1 g2 ⊢; omega
    · rw [List.mem_singleton.mp m] at g1 g2 ⊢; simp only [List.headD_cons] at g1 g2 ⊢; omega
  · have e : trips ps d [i, b] [t] = [[b + d (pr ps i).x t + 0, (pr ps i).x, t], [(pr ps i).l - b + d (pr ps i).y t + 0, (pr ps i).y, t]] := rfl
    rw [e] at m h
    have g1 := h _ List.mem_cons_self
    have g2 := h _ (List.mem_cons_of_mem _ List.mem_cons_self)
    simp only [List.headD_cons] at g1 g2
    show _ = dr ps d t i b
    unfold dr
    rw [T.sym t (pr ps i).x, T.sym t (pr ps i).y]
    rcases List.mem_cons.mp m with rfl | m
    · simp only [List.headD_cons] at g1 g2 ⊢; omega
    · rw [List.mem_singleton.mp m] at g1 g2 ⊢; simp only [List.headD_cons] at g1 g2 ⊢; omega
  · have nij : ¬ i = j := fun z => by subst z; simp [onePipe] at ne
    have e : trips ps d [i, b] [j, a] = [[b + d (pr ps i).x (pr ps j).x + a, (pr ps i).x, (pr ps j).x], [b + d (pr ps i).x (pr ps j).y + ((pr ps j).l - a), (pr ps i).x, (pr ps j).y],
      [(pr ps i).l - b + d (pr ps i).y (pr ps j).x + a, (pr ps i).y, (pr ps j).x], [(pr ps i).l - b + d (pr ps i).y (pr ps j).y + ((pr ps j).l - a), (pr ps i).y, (pr ps j).y]] := rfl
    rw [e] at m h
    have g1 := h _ List.mem_cons_self
    have g2 := h _ (List.mem_cons_of_mem _ List.mem_cons_self)
    have g3 := h _ (List.mem_cons_of_mem _ (List.mem_cons_of_mem _ List.mem_cons_self))
    have g4 := h _ (List.mem_cons_of_mem _ (List.mem_cons_of_mem _ (List.mem_cons_of_mem _ List.mem_cons_self)))
    simp only [List.headD_cons] at g1 g2 g3 g4
    show _ = (if i = j then ab b a else min (b + dr ps d (pr ps i).x j a) ((pr ps i).l - b + dr ps d (pr ps i).y j a))
    rw [if_neg nij]
    unfold dr
    rcases List.mem_cons.mp m with rfl | m
    · simp only [List.headD_cons] at g1 g2 g3 g4 ⊢; omega
    · rcases List.mem_cons.mp m with rfl | m
      · simp only [List.headD_cons] at g1 g2 g3 g4 ⊢; omega
      · rcases List.mem_cons.mp m with rfl | m
        · simp only [List.headD_cons] at g1 g2 g3 g4 ⊢; omega
        · rw [List.mem_singleton.mp m] at g1 g2 g3 g4 ⊢; simp only [List.headD_cons] at g1 g2 g3 g4 ⊢; omega
theorem one_pipe {n : Int} {ps : List Pi} {d : Int → Int → Int} {p q : Pl} (hp : okP n ps p) (hq : okP n ps q) (h : onePipe p q = true) : ∃ i a b, p = [i, a] ∧ q = [i, b] ∧ Dp ps d p q = ab a b := by
  rcases ok_cases hp with ⟨r, rfl, _⟩ | ⟨i, a, rfl, _⟩ <;> rcases ok_cases hq with ⟨t, rfl, _⟩ | ⟨j, b, rfl, _⟩
  · cases h
  · cases h
  · cases h
  · have e : i = j := by simpa [onePipe] using h
    subst e
    exact ⟨i, a, b, rfl, rfl, if_pos rfl⟩
theorem abs_ab (a b : Int) : (if a - b < 0 then -(a - b) else a - b) = ab a b := by unfold ab; split <;> split <;> omega
theorem ok_ne {n : Int} {ps : List Pi} {p : Pl} (h : okP n ps p) : p ≠ [] := by
  rcases ok_cases h with ⟨r, rfl, _⟩ | ⟨i, a, rfl, _⟩ <;> (intro z; cases z)
section
variable {P : Program} {w : World} {K : PySem.W.Frag} {mg : Str → Option Value} {base : Heap}
abbrev sGap : Stmt := topS 41
abbrev nGap : List Str := ["plan", "one", "other"]
theorem scGap : FnScope nGap ["plan", "one", "other"] (defScope sGap) := ⟨rfl, rfl, rfl, by decide +kernel, rfl, by decide +kernel, by decide +kernel⟩
def spGap (C : Addr) : Sp := fun vs H Q _ => ∃ (a : Addr) (o1 o2 : V) (n : Int) (ps : List Pi) (d : Int → Int → Int) (p q : Pl), vs = [.ref a, o1, o2] ∧ PlanAt C [] H a n ps d ∧ Tm n ps d ∧ Dt [] H o1 (tupI p) ∧ Dt [] H o2 (tupI q) ∧ okP n ps p ∧ okP n ps q ∧
  ∀ H' : Hp, Keep [] H H' → Q (.int (Dp ps d p q)) H'
theorem ok_gap {C : Addr} (h : Has K mg "gap_of" sGap) (B : Blt mg) (CO : Can P w K mg base "are_in_one_pipe" ["one", "other"] 1 spOnePipe) (CS : Can P w K mg base "shortest" ["plan", "one", "other"] 2 (spShort C)) : Can P w K mg base "gap_of" ["plan", "one", "other"] 3 (spGap C) := by
  obtain ⟨f, fd, F, g⟩ := h
  refine ⟨f, fd, F.ok (k := 2) scGap (fun vs H Q E h => ?_) (fun cdv A outer s H vs Q E hr h => ?_), g, F.kp, F.binds fun _ _ _ _ _ _ us hl => match us, hl with | [_, _, _], _ => rfl⟩
  · obtain ⟨a, o1, o2, n, ps, d, p, q, rfl, _⟩ := h
    rfl
  · obtain ⟨a, o1, o2, n, ps, d, p, q, rfl, pl, T, h1, h2, okp, okq, k⟩ := h
    refine ⟨_, pss_cons (ps_if (pt_val (pe_can CO (hr.mono (by decide)) (by rfl) (pa_cons (pv 1) (pa_cons (pv 2) pa_nil)))) (pss_one (ps_ret (pe_callB call_abs (by rfl) B.abs_ boot_abs (pa_cons (pe_op op_sub (pe_ix ix_tup (pv 1) pe_int (fun _ _ => rfl)) (pe_ix ix_tup (pv 2) pe_int (fun _ _ => rfl))) pa_nil)))) pss_nil)
      (pss_one (ps_ret (pe_ix ix_tup (pe_can CS (hr.mono (by decide)) (by rfl) (pa_cons (pv 0) (pa_cons (pv 1) (pa_cons (pv 2) pa_nil)))) pe_int (fun _ _ => rfl)))), ?_⟩
    refine ⟨o1, rfl, o2, rfl, o1, o2, p, q, rfl, h1, h2, ok_ne okp, ok_ne okq, _, rfl, ?_⟩
    cases c : onePipe p q with
    | true =>
      obtain ⟨i, x, y, rfl, rfl, e⟩ := one_pipe (d := d) okp okq c
      obtain ⟨a1, rfl, _, e1⟩ := tupI_at h1
      obtain ⟨a2, rfl, _, e2⟩ := tupI_at h2
      refine iteT ⟨.ref a1, rfl, a1, _, 1, .int x, rfl, rfl, SqT.of e1, atI_nat (j := 1) rfl, .ref a2, rfl, a2, _, 1, .int y, rfl, rfl, SqT.of e2, atI_nat (j := 1) rfl, x, y, rfl, rfl, x - y, rfl, ?_⟩
      rw [abs_ab, ← e]
      exact k H (Keep.refl _ _)
    | false =>
      refine iteF ⟨.ref a, rfl, o1, rfl, o2, rfl, a, o1, o2, n, ps, d, p, q, rfl, pl, T, h1, h2, okp, okq, fun H' v ns kH dv mn hm => ?_⟩
      obtain ⟨t, rfl, _, et⟩ := tupI_at dv
      have e := trips_min T okp okq c mn hm
      obtain ⟨x, xs, rfl⟩ : ∃ x xs, ns = x :: xs := by
        obtain ⟨e, _, h⟩ := List.mem_flatMap.mp mn
        obtain ⟨f', _, rfl⟩ := List.mem_map.mp h
        exact ⟨_, _, rfl⟩
      refine ⟨t, _, 0, .int x, rfl, rfl, SqT.of et, atI_nat (j := 0) rfl, ?_⟩
      have e' : x = Dp ps d p q := e
      rw [e']
      exact k H' kH
/-! a plan is made -/
theorem plan_made {C : Addr} {H : Hp} {h : V} {n : Int} {ps : List Pi} {d : Int → Int → Int} {av : List Addr} {R : VK} {x dx : Addr} (hh : Dt av H h (houseD n (ps.map Pi.dat))) (hk : HouseOk n ps) (T : Tm n ps d) (tr : Tr av H) (nx : H x = none) (ndx : H dx = none) (ne : dx ≠ x)
    (k : ∀ H' : Hp, Keep [] H H' → Tr av H' → PlanAt C av H' x n ps d → R .non H') : spInit C (.ref x :: ([h] ++ [])) (upd (upd H dx (.own x)) x (.ins C dx [])) R E0 := by
  have nx1 : (upd H dx (.own x)) x = none := by rw [upd_ne ne.symm]; exact nx
  have k0 : Keep [] H (upd (upd H dx (.own x)) x (.ins C dx [])) := (Keep.new ndx).trans (Keep.new nx1)
  refine ⟨x, dx, h, n, ps, d, av, rfl, upd_same, tr.not nx, (hh.more nx).keep k0.of, hk, T, (tr.upd).upd, fun H' kH tr' pl => k H' ?_ tr' pl⟩
  exact Keep.drop nx (fun b o e nb => kH b o (k0 b o e List.not_mem_nil) nb)
end
end Rw

namespace Rw
open PySem PySem.Spec PyProof.Rows L2
section
variable {P : Program} {w : World} {K : PySem.W.Frag} {mg : Str → Option Value} {base : Heap}
abbrev sDist : Stmt := topS 43
abbrev nDist : List Str := ["house", "one", "other"]
theorem scDist : FnScope nDist ["house", "one", "other"] (defScope sDist) := ⟨rfl, rfl, rfl, by decide +kernel, rfl, by decide +kernel, by decide +kernel⟩
def spDist : Sp := fun vs H Q _ => ∃ (h o1 o2 : V) (n : Int) (ps : List Pi) (d : Int → Int → Int) (p q : Pl), vs = [h, o1, o2] ∧ Dt [] H h (houseD n (ps.map Pi.dat)) ∧ HouseOk n ps ∧ Tm n ps d ∧ Dt [] H o1 (tupI p) ∧ Dt [] H o2 (tupI q) ∧ okP n ps p ∧ okP n ps q ∧
  ∀ H' : Hp, Keep [] H H' → Q (.int (Dp ps d p q)) H'
theorem ok_dist {C : Addr} (h : Has K mg "distance_of" sDist) (CP : CanMk P w K mg base "Plan" C ["self", "house"] 2 (spInit C)) (CG : Can P w K mg base "gap_of" ["plan", "one", "other"] 3 (spGap C)) : Can P w K mg base "distance_of" ["house", "one", "other"] 4 spDist := by
  obtain ⟨f, fd, F, g⟩ := h
  refine ⟨f, fd, F.ok (k := 3) scDist (fun vs H Q E h => ?_) (fun cdv A outer s H vs Q E hr h => ?_), g, F.kp, F.binds fun _ _ _ _ _ _ us hl => match us, hl with | [_, _, _], _ => rfl⟩
  · obtain ⟨h, o1, o2, n, ps, d, p, q, rfl, _⟩ := h
    rfl
  · obtain ⟨h, o1, o2, n, ps, d, p, q, rfl, hh, hk, T, h1, h2, okp, okq, k⟩ := h
    refine ⟨_, pss_one (ps_ret (pe_can CG (hr.mono (by decide)) (by rfl) (pa_cons (pe_mk CP (hr.mono (by decide)) (by rfl) (pa_cons (pv 0) pa_nil)) (pa_cons (pv 1) (pa_cons (pv 2) pa_nil))))), ?_⟩
    refine ⟨h, rfl, fun x dx nx ndx ne => plan_made (C := C) hh hk T (show Tr [] H from fun _ m => absurd m List.not_mem_nil) nx ndx ne (fun H1 k1 _ pl => ?_)⟩
    exact ⟨rfl, o1, rfl, o2, rfl, x, o1, o2, n, ps, d, p, q, rfl, pl, T, h1.keep k1, h2.keep k1, okp, okq, fun H2 k2 => k H2 (k1.trans k2)⟩
end
end Rw

namespace Rw
open PySem PySem.Spec PyProof.Rows L2
end Rw

namespace Rw
open PySem PySem.Spec PyProof.Rows L2
/-! ### sorted lists of places -/
def sortL (nss : List (List Int)) : List (List Int) := nss.mergeSort leI
theorem sortVI_snd (bs : List VI) : (sortVI bs).map (·.2) = sortL (bs.map (·.2)) := List.map_mergeSort (fun _ _ _ _ => rfl)
theorem zip_fst {us : List V} {nss : List (List Int)} (h : us.length = nss.length) : (us.zip nss).map (·.1) = us := List.map_fst_zip (Nat.le_of_eq h)
theorem zip_snd {us : List V} {nss : List (List Int)} (h : us.length = nss.length) : (us.zip nss).map (·.2) = nss := List.map_snd_zip (Nat.le_of_eq h.symm)
theorem zip_enc {us : List V} {nss : List (List Int)} (h : us.length = nss.length) : (us.zip nss).map encVI = nss.map tupI := by
  have e : (us.zip nss).map encVI = ((us.zip nss).map (·.2)).map tupI := by rw [List.map_map]; rfl
  rw [e, zip_snd h]
theorem dts_zip {av : List Addr} {H : Hp} : ∀ {us : List V} {nss : List (List Int)}, Dts av H us (nss.map tupI) → ∀ b ∈ us.zip nss, Dt av H b.1 (encVI b)
  | [], _, _, b, m => by simp at m
  | _ :: _, [], _, b, m => by simp at m
  | u :: us, n :: nss, h, b, m => by
    cases h with
    | cons h1 h2 =>
      rw [List.zip_cons_cons] at m
      rcases List.mem_cons.mp m with e | e
      · rw [e]; exact h1
      · exact dts_zip h2 b e
theorem dts_map {av : List Addr} {H : Hp} : ∀ {bs : List VI}, (∀ b ∈ bs, Dt av H b.1 (encVI b)) → Dts av H (bs.map (·.1)) (bs.map encVI)
  | [], _ => .nil
  | b :: bs, h => .cons (h b List.mem_cons_self) (dts_map fun c m => h c (List.mem_cons_of_mem _ m))
theorem dts_sort {av : List Addr} {H : Hp} {us : List V} {nss : List (List Int)} (h : Dts av H us (nss.map tupI)) : Dts av H ((sortVI (us.zip nss)).map (·.1)) ((sortL nss).map tupI) := by
  have l : us.length = nss.length := by have := h.len; rw [List.length_map] at this; exact this
  have z : Dts av H ((sortVI (us.zip nss)).map (·.1)) ((sortVI (us.zip nss)).map encVI) := dts_map fun b m => dts_zip h b (List.mem_mergeSort.mp m)
  have e : (sortVI (us.zip nss)).map encVI = (sortL nss).map tupI := by
    have e1 : (sortVI (us.zip nss)).map encVI = ((sortVI (us.zip nss)).map (·.2)).map tupI := by rw [List.map_map]; rfl
    rw [e1, sortVI_snd, zip_snd l]
  rw [e] at z
  exact z
def doorNext (ps : List Pi) (row : List Int) : Pl := nm ps (row.getD 0 0) (if row.getD 1 0 = 0 then 1 else row.getD 1 0 - 1)
def besideL (ps : List Pi) : Pl → List Pl
  | [r] => (doorsTo ps r ps.length).map (doorNext ps)
  | [i, a] => [nm ps i (a - 1), nm ps i (a + 1)]
  | _ => []
theorem nm_ne (ps : List Pi) (i t : Int) : nm ps i t ≠ [] := by
  unfold nm
  split
  · intro z; cases z
  · split <;> (intro z; cases z)
end Rw

namespace Rw
/-! ### which places are next to one: two lists, one arrangement -/
section
variable {n : Int} {ps : List Pi} {d : Int → Int → Int} (T : Tm n ps d)
include T
/-! besideL -/
theorem mem_beside {p q : Pl} (ok : okP n ps p) : q ∈ besideL ps p ↔ Adj ps p q := by
  rcases ok_cases ok with ⟨r, rfl, r0, r1⟩ | ⟨i, b, rfl, h0, h1, b0, b1⟩
  · show q ∈ (doorsTo ps r ps.length).map (doorNext ps) ↔ _
    constructor
    · intro m
      obtain ⟨row, mr, rfl⟩ := List.mem_map.mp m
      obtain ⟨j, jl, h⟩ := mem_doors.mp mr
      have l1 := (T.at (i := (j : Int)) (by omega) (by omega)).2.2.2.2
      rcases h with ⟨e, rfl⟩ | ⟨e, rfl⟩
      · exact ⟨(j : Int), 0, by omega, by omega, by omega, by omega, .inl ⟨by rw [nm_0, e], rfl⟩⟩
      · refine ⟨(j : Int), (pr ps (j : Int)).l - 1, by omega, by omega, by omega, by omega, .inr ⟨?_, by rw [show (pr ps (j : Int)).l - 1 + 1 = (pr ps (j : Int)).l by omega, nm_l (by omega), e]⟩⟩
        show nm ps (j : Int) (if (pr ps (j : Int)).l = 0 then 1 else (pr ps (j : Int)).l - 1) = _
        rw [if_neg (by omega)]
    · rintro ⟨j, a, j0, j1, a0, a1, h⟩
      have ej : ((j.toNat : Nat) : Int) = j := by omega
      rcases h with ⟨e1, rfl⟩ | ⟨rfl, e1⟩
      · rcases nm_one e1.symm with ⟨z, ex⟩ | ⟨z, _⟩
        · subst z
          exact List.mem_map.mpr ⟨[j, 0, (pr ps j).y, (pr ps j).l], mem_doors.mpr ⟨j.toNat, by omega, .inl (by rw [ej]; exact ⟨ex, rfl⟩)⟩, rfl⟩
        · omega
      · rcases nm_one e1.symm with ⟨z, _⟩ | ⟨z, ey⟩
        · omega
        · refine List.mem_map.mpr ⟨[j, (pr ps j).l, (pr ps j).x, 0], mem_doors.mpr ⟨j.toNat, by omega, .inr (by rw [ej]; exact ⟨ey, rfl⟩)⟩, ?_⟩
          show nm ps j (if (pr ps j).l = 0 then 1 else (pr ps j).l - 1) = nm ps j a
          rw [if_neg (by omega), show (pr ps j).l - 1 = a by omega]
  · show q ∈ [nm ps i (b - 1), nm ps i (b + 1)] ↔ _
    have pe : nm ps i b = [i, b] := nm_mid (by omega) (by omega)
    constructor
    · intro m
      rcases List.mem_cons.mp m with rfl | m
      · exact ⟨i, b - 1, h0, h1, by omega, by omega, .inr ⟨rfl, by rw [show b - 1 + 1 = b by omega, pe]⟩⟩
      · rw [List.mem_singleton.mp m]
        exact ⟨i, b, h0, h1, by omega, by omega, .inl ⟨pe.symm, rfl⟩⟩
    · intro h
      rcases near_mid T b0 b1 h with rfl | rfl
      · exact List.mem_cons_self
      · exact List.mem_cons_of_mem _ List.mem_cons_self
theorem doors_nodup (r : Int) (r0 : 0 ≤ r) (r1 : r < n) : ∀ m : Nat, m ≤ ps.length → ((doorsTo ps r m).map (doorNext ps)).Nodup
  | 0, _ => by unfold doorsTo; simp
  | m + 1, hm => by
    have ih := doors_nodup r r0 r1 m (by omega)
    obtain ⟨x0, x1, y0, y1, l1⟩ := T.at (i := (m : Int)) (by omega) (by omega)
    have o := (T.own (i := (m : Int)) (by omega) (by omega)).2.2
    rw [doorsTo_succ, List.map_append]
    have old : ∀ q ∈ (doorsTo ps r m).map (doorNext ps), AdjTo ps (m : Int) 0 [r] q := fun q hq => by
      obtain ⟨row, mr, rfl⟩ := List.mem_map.mp hq
      obtain ⟨j, jl, h⟩ := mem_doors.mp mr
      have l2 := (T.at (i := (j : Int)) (by omega) (by omega)).2.2.2.2
      rcases h with ⟨e, rfl⟩ | ⟨e, rfl⟩
      · exact ⟨(j : Int), 0, by omega, .inl ⟨by omega, by omega, by omega⟩, .inl ⟨by rw [nm_0, e], rfl⟩⟩
      · refine ⟨(j : Int), (pr ps (j : Int)).l - 1, by omega, .inl ⟨by omega, by omega, by omega⟩, .inr ⟨?_, by rw [show (pr ps (j : Int)).l - 1 + 1 = (pr ps (j : Int)).l by omega, nm_l (by omega), e]⟩⟩
        show nm ps (j : Int) (if (pr ps (j : Int)).l = 0 then 1 else (pr ps (j : Int)).l - 1) = _
        rw [if_neg (by omega)]
    have far : ∀ (a : Int) (q : Pl), 0 ≤ a → a < (pr ps (m : Int)).l → (([r] = nm ps (m : Int) a ∧ q = nm ps (m : Int) (a + 1)) ∨ (q = nm ps (m : Int) a ∧ [r] = nm ps (m : Int) (a + 1))) → q ∉ (doorsTo ps r m).map (doorNext ps) := fun a q a0 a1 hq mem => by
      obtain ⟨j, b, j0, h | h, rr⟩ := old q mem
      · have z := step_one T (i := (m : Int)) (a := a) (j := j) (b := b) (by omega) (by omega) a0 a1 j0 (by omega) h.2.1 h.2.2 (by
          rcases hq with ⟨u1, u2⟩ | ⟨u1, u2⟩ <;> rcases rr with ⟨v1, v2⟩ | ⟨v1, v2⟩
          · exact .inl ⟨u1.symm.trans v1, u2.symm.trans v2⟩
          · exact .inr ⟨u1.symm.trans v2, u2.symm.trans v1⟩
          · exact .inr ⟨u1.symm.trans v2, u2.symm.trans v1⟩
          · exact .inl ⟨u1.symm.trans v1, u2.symm.trans v2⟩)
        omega
      · omega
    unfold doorRow
    by_cases ex : (pr ps (m : Int)).x = r
    · have ey : ¬ (pr ps (m : Int)).y = r := fun z => o (by rw [ex, z])
      rw [if_pos ex, if_neg ey, List.append_nil]
      refine List.nodup_append.mpr ⟨ih, by simp, fun a ha b hb z => ?_⟩
      rw [List.mem_singleton.mp hb] at z
      exact far 0 (doorNext ps [(m : Int), 0, (pr ps (m : Int)).y, (pr ps (m : Int)).l]) (by omega) (by omega) (.inl ⟨by rw [nm_0, ex], rfl⟩) (z ▸ ha)
    · by_cases ey : (pr ps (m : Int)).y = r
      · rw [if_neg ex, if_pos ey, List.nil_append]
        refine List.nodup_append.mpr ⟨ih, by simp, fun a ha b hb z => ?_⟩
        rw [List.mem_singleton.mp hb] at z
        have en : doorNext ps [(m : Int), (pr ps (m : Int)).l, (pr ps (m : Int)).x, 0] = nm ps (m : Int) ((pr ps (m : Int)).l - 1) := by
          show nm ps (m : Int) (if (pr ps (m : Int)).l = 0 then 1 else (pr ps (m : Int)).l - 1) = _
          rw [if_neg (by omega)]
        exact far ((pr ps (m : Int)).l - 1) _ (by omega) (by omega) (.inr ⟨en, by rw [show (pr ps (m : Int)).l - 1 + 1 = (pr ps (m : Int)).l by omega, nm_l (by omega), ey]⟩) (z ▸ ha)
      · rw [if_neg ex, if_neg ey]
        simp only [List.append_nil, List.map_nil]
        exact ih
theorem beside_nodup {p : Pl} (ok : okP n ps p) : (besideL ps p).Nodup := by
  rcases ok_cases ok with ⟨r, rfl, r0, r1⟩ | ⟨i, b, rfl, h0, h1, b0, b1⟩
  · exact doors_nodup T r r0 r1 ps.length (Nat.le_refl _)
  · show [nm ps i (b - 1), nm ps i (b + 1)].Nodup
    refine List.nodup_cons.mpr ⟨fun m => ?_, by simp⟩
    have := nm_inj T h0 h1 (by omega) (by omega) (by omega) (by omega) (List.mem_singleton.mp m)
    omega
end
theorem perm_of {α : Type} [DecidableEq α] {l m : List α} (hl : l.Nodup) (hm : m.Nodup) (h : ∀ x, x ∈ l ↔ x ∈ m) : l.Perm m := by
  rw [List.perm_iff_count]
  intro a
  rw [hl.count, hm.count]
  by_cases e : a ∈ l
  · rw [if_pos e, if_pos ((h a).mp e)]
  · rw [if_neg e, if_neg (fun z => e ((h a).mpr z))]
theorem leI_trans (a b c : List Int) (h1 : leI a b = true) (h2 : leI b c = true) : leI a c = true := by
  unfold leI at *
  simp only [Bool.not_eq_true', decide_eq_false_iff_not] at *
  exact List.le_trans (l₁ := a) (l₂ := b) (l₃ := c) h1 h2
theorem leI_total (a b : List Int) : (leI a b || leI b a) = true := by
  unfold leI
  by_cases h : b < a
  · have : ¬ a < b := List.lt_asymm h
    simp [h, this]
  · simp [h]
theorem leI_anti (a b : List Int) (h1 : leI a b = true) (h2 : leI b a = true) : a = b := by
  unfold leI at *
  simp only [Bool.not_eq_true', decide_eq_false_iff_not] at *
  exact List.le_antisymm h1 h2
theorem sortL_perm {l m : List (List Int)} (h : l.Perm m) : sortL l = sortL m := by
  have p : (sortL l).Perm (sortL m) := (List.mergeSort_perm l leI).trans (h.trans (List.mergeSort_perm m leI).symm)
  exact List.Perm.eq_of_pairwise (fun a b _ _ h1 h2 => leI_anti a b h1 h2) (List.pairwise_mergeSort leI_trans leI_total l) (List.pairwise_mergeSort leI_trans leI_total m) p
end Rw

namespace Rw
open PySem PySem.Spec PyProof.Rows L2
/-! ### the program's own defs -/
section
variable {P : Program} {w : World} {K : PySem.W.Frag} {mg : Str → Option Value} {base : Heap}
abbrev sPlaceP : Stmt := topS 33
end
def isPlace (n : Int) (ps : List PyData) : PyData → Bool
  | .tuple [x] => within x 0 (n - 1)
  | .tuple [.int p, y] => within (.int p) 0 ((ps.length : Int) - 1) && within y 1 (lenOf (ps.getD p.toNat .none) - 1)
  | _ => false
section
variable {P : Program} {w : World} {K : PySem.W.Frag} {mg : Str → Option Value} {base : Heap}
theorem scPlaceP : FnScope ["house", "thing", "rooms", "pipes"] ["house", "thing"] (defScope sPlaceP) := ⟨rfl, rfl, rfl, by decide +kernel, rfl, by decide +kernel, by decide +kernel⟩
def spPlaceP : Sp := fun vs H Q _ => ∃ (h v : V) (n : Int) (ps : List PyData) (d : PyData) (a1 a2 : List Addr), vs = [h, v] ∧ Dt a1 H h (houseD n ps) ∧ PipesOk ps ∧ Dt a2 H v d ∧ Q (.bl (isPlace n ps d)) H
/-! the length of the pipe at a place of the list -/
theorem pipe_at {a1 : List Addr} {H : Hp} {xs : List V} {ps : List PyData} (hs : Dts a1 H xs ps) (hp : PipesOk ps) {i : Nat} (hi : i < ps.length) :
    ∃ pa ys, xs[i]? = some (.ref pa) ∧ H pa = some (.tup ys) ∧ ys[2]? = some (.int (lenOf (ps.getD i .none))) := by
  have e : ps[i]? = some ps[i] := List.getElem?_eq_getElem hi
  obtain ⟨v, ev, dv⟩ := hs.get i e
  obtain ⟨a, b, l, r, ep⟩ := hp ps[i] (List.getElem_mem hi)
  have eg : ps.getD i .none = .tuple (a :: b :: .int l :: r) := by
    rw [List.getD_eq_getElem?_getD, e, ← ep]; rfl
  rw [ep] at dv
  cases dv with
  | tup na ea da =>
    obtain ⟨u, eu, du⟩ := da.get 2 (d := .int l) rfl
    cases du
    refine ⟨_, _, ev, ea, ?_⟩
    rw [eg]; exact eu
theorem ok_placeP (h : Has K mg "is_place" sPlaceP) (B : Blt mg) (CT : Can P w K mg base "is_tuple_of" ["thing", "many"] 1 spTupOf) (CW : Can P w K mg base "is_within" ["thing", "low", "high"] 2 spWithin) :
    Can P w K mg base "is_place" ["house", "thing"] 3 spPlaceP := by
  obtain ⟨f, fd, F, g⟩ := h
  refine ⟨f, fd, F.ok (k := 2) scPlaceP (fun vs H Q E h => ?_) (fun cdv A outer s H vs Q E hr h => ?_), g, F.kp, F.binds fun _ _ _ _ _ _ us hl => match us, hl with | [_, _], _ => rfl⟩
  · obtain ⟨h, v, n, ps, d, a1, a2, rfl, _⟩ := h
    rfl
  · obtain ⟨h, v, n, ps, d, a1, a2, rfl, hh, hp, hd, q⟩ := h
    refine ⟨_, pss_cons (ps_asg (pv 0) (pg_tup (by rfl) (pgs_cons (pg_name (i := 2) scPlaceP.nd rfl (.inl rfl)) (pgs_cons (pg_name (i := 3) scPlaceP.nd rfl (.inl rfl)) pgs_nil))))
      (pss_cons (ps_if (pt_val (pe_can CT (hr.mono (by decide)) (by rfl) (pa_cons (pv 1) (pa_cons pe_int pa_nil))))
        (pss_one (ps_ret (pe_can CW hr (by rfl) (pa_cons (pe_ix ix_tup (pv 1) pe_int (fun _ _ => rfl)) (pa_cons pe_int (pa_cons (pe_op op_sub (pv 2) pe_int) pa_nil)))))) pss_nil)
      (pss_cons (ps_if (PW.pt (pw_or (pt_not (pt_val (pe_can CT (hr.mono (by decide)) (by rfl) (pa_cons (pv 1) (pa_cons pe_int pa_nil)))))
          (pw_or1 (pt_not (pt_val (pe_can CW hr (by rfl) (pa_cons (pe_ix ix_tup (pv 1) pe_int (fun _ _ => rfl)) (pa_cons pe_int (pa_cons (pe_op op_sub (pe_callB call_len_seq (by rfl) B.len_ PySem.boot_len (pa_cons (pv 3) pa_nil)) pe_int) pa_nil)))))))))
        (pss_one (ps_ret pe_bl)) pss_nil)
      (pss_one (ps_ret (pe_can CW hr (by rfl) (pa_cons (pe_ix ix_tup (pv 1) pe_int (fun _ _ => rfl)) (pa_cons pe_int (pa_cons (pe_op op_sub (pe_ix ix_tup (pe_ix ix_tup (pv 3) (pe_ix ix_tup (pv 1) pe_int (fun _ _ => rfl)) (fun _ _ => rfl)) pe_int (fun _ _ => rfl)) pe_int) pa_nil)))))))), ?_⟩
    cases hh with
    | tup na ea da =>
      rename_i ah xh
      cases da with
      | cons d1 da =>
        cases d1
        cases da with
        | cons d2 da =>
          cases da
          cases d2 with
          | tup nb eb db =>
            rename_i ap xp
            refine ⟨.ref ah, rfl, ah, [.int n, .ref ap], rfl, SqT.of ea, rfl, _, _, rfl, _, [], rfl, rfl, ?_⟩
            refine ⟨v, rfl, v, d, a2, 1, rfl, hd, _, rfl, ite2 (fun e => ?_) (fun e => ?_)⟩
            · -- one part
              cases hd <;> first | (cases e; done) | skip
              rename_i a xs ds na' ea' hs
              have e1 : (ds.length : Int) = 1 := of_decide_eq_true e
              obtain ⟨x, rfl⟩ : ∃ x, ds = [x] := by
                cases ds with
                | nil => exact absurd e1 (by decide)
                | cons x r => cases r with
                  | nil => exact ⟨x, rfl⟩
                  | cons y r => exact absurd e1 (by rw [List.length_cons, List.length_cons]; omega)
              obtain ⟨y, ey, dy⟩ := hs.get 0 (d := x) rfl
              refine ⟨.ref a, rfl, a, xs, 0, y, rfl, rfl, SqT.of ea', atI_nat (j := 0) ey, .int n, rfl, n, 1, rfl, rfl, y, x, a2, 0, n - 1, rfl, dy, ?_⟩
              exact q
            · refine ⟨v, rfl, v, d, a2, 2, rfl, hd, _, rfl, ite2 (fun e2 => ?_) (fun e2 => ?_)⟩
              · have z : false = isPlace n ps d := by
                  cases d <;> first | rfl | skip
                  rename_i ds
                  cases ds with
                  | nil => rfl
                  | cons x r => cases r with
                    | nil => exact absurd rfl e
                    | cons y r => cases r with
                      | nil => cases e2
                      | cons _ _ => cases x <;> rfl
                rw [← z] at q; exact q
              · have e2' : tupOf d 2 = true := by
                  cases hq : tupOf d 2 with
                  | true => rfl
                  | false => rw [hq] at e2; exact absurd rfl e2
                cases hd <;> first | (cases e2'; done) | skip
                rename_i a xs ds na' ea' hs
                have e1 : (ds.length : Int) = 2 := of_decide_eq_true e2'
                obtain ⟨x, y, rfl⟩ : ∃ x y, ds = [x, y] := by
                  match ds, e1 with
                  | [x, y], _ => exact ⟨x, y, rfl⟩
                  | [], e => exact absurd e (by decide)
                  | [_], e => simp at e
                  | _ :: _ :: _ :: _, e => rw [List.length_cons, List.length_cons, List.length_cons] at e; omega
                obtain ⟨vx, ex, dx⟩ := hs.get 0 (d := x) rfl
                obtain ⟨vy, ey, dy⟩ := hs.get 1 (d := y) rfl
                refine ⟨.ref a, rfl, a, xs, 0, vx, rfl, rfl, SqT.of ea', atI_nat (j := 0) ex, .ref ap, rfl, ap, xp, rfl, .inr (SqT.of eb), _, 1, rfl, rfl, vx, x, a2, 0, _, rfl, dx, _, rfl, ite2 (fun e3 => ?_) (fun e3 => ?_)⟩
                · have z : false = isPlace n ps (.tuple [x, y]) := by
                    cases x <;> first | rfl | skip
                    rename_i i
                    rw [db.len] at e3
                    show _ = (within (.int i) 0 ((ps.length : Int) - 1) && _)
                    rw [(Bool.not_eq_true' _).mp e3]; rfl
                  rw [← z] at q; exact q
                · rw [db.len] at e3
                  have e4 : within x 0 ((ps.length : Int) - 1) = true := by
                    cases hq : within x 0 ((ps.length : Int) - 1) with
                    | true => rfl
                    | false => rw [hq] at e3; exact absurd rfl e3
                  cases dx <;> first | (cases e4; done) | skip
                  rename_i i
                  have b1 : 0 ≤ i ∧ i ≤ (ps.length : Int) - 1 := by
                    have := (Bool.and_eq_true _ _).mp (show (decide (0 ≤ i) && decide (i ≤ (ps.length : Int) - 1)) = true from e4)
                    exact ⟨of_decide_eq_true this.1, of_decide_eq_true this.2⟩
                  obtain ⟨pa, ys, g1, g2, g3⟩ := pipe_at db hp (i := i.toNat) (by omega)
                  have ei : ((i.toNat : Nat) : Int) = i := by omega
                  refine ⟨.ref a, rfl, a, xs, 1, vy, rfl, rfl, SqT.of ea', atI_nat (j := 1) ey, .ref ap, rfl, .ref a, rfl, a, xs, 0, .int i, rfl, rfl, SqT.of ea', atI_nat (j := 0) ex, ap, xp, i, .ref pa, rfl, rfl, SqT.of eb, ?_, pa, ys, 2, _, rfl, rfl, SqT.of g2, atI_nat (j := 2) g3, _, 1, rfl, rfl, vy, y, a2, 1, _, rfl, dy, ?_⟩
                  · rw [← ei]; exact atI_nat g1
                  · have z : within y 1 (lenOf (ps.getD i.toNat .none) - 1) = isPlace n ps (.tuple [.int i, y]) := by
                      show _ = (within (.int i) 0 ((ps.length : Int) - 1) && within y 1 (lenOf (ps.getD i.toNat .none) - 1))
                      rw [e4, Bool.true_and]
                    rw [← z] at q; exact q
end
theorem pis_ok (ps : List Pi) : PipesOk (ps.map Pi.dat) := fun p hp => by
  obtain ⟨q, _, rfl⟩ := List.mem_map.mp hp
  exact ⟨_, _, _, _, rfl⟩
theorem ok_isPlace {n : Int} {ps : List Pi} {p : Pl} (h : okP n ps p) : isPlace n (ps.map Pi.dat) (tupI p) = true := by
  rcases ok_cases h with ⟨r, rfl, r0, r1⟩ | ⟨i, a, rfl, h0, h1, a0, a1⟩
  · show (decide (0 ≤ r) && decide (r ≤ n - 1)) = true
    rw [decide_eq_true r0, decide_eq_true (show r ≤ n - 1 by omega)]; rfl
  · have el : lenOf ((ps.map Pi.dat).getD i.toNat .none) = (pr ps i).l := by
      rw [List.getD_eq_getElem?_getD, List.getElem?_map, (pr_mem h0 h1).2]; rfl
    show ((decide (0 ≤ i) && decide (i ≤ ((ps.map Pi.dat).length : Int) - 1)) && (decide (1 ≤ a) && decide (a ≤ lenOf ((ps.map Pi.dat).getD i.toNat .none) - 1))) = true
    rw [el, List.length_map, decide_eq_true h0, decide_eq_true (show i ≤ (ps.length : Int) - 1 by omega), decide_eq_true a0, decide_eq_true a1]; rfl
end Rw

namespace Rw
open PySem PySem.Spec PyProof.Rows L2
def aStr : PyData → Bool
  | .str _ => true
  | _ => false
theorem kit_str (d : PyData) : kitB (tn d) "str" = some (aStr d) := by
  cases d <;> first | exact (show kitB "NoneType" "str" = some false by decide +kernel) | exact (show kitB "bool" "str" = some false by decide +kernel) | exact (show kitB "int" "str" = some false by decide +kernel) | exact (show kitB "str" "str" = some true by decide +kernel) | exact (show kitB "list" "str" = some false by decide +kernel) | exact (show kitB "tuple" "str" = some false by decide +kernel) | exact (show kitB "dict" "str" = some false by decide +kernel)
def aLst : PyData → Bool
  | .list _ => true
  | _ => false
theorem kit_lst (d : PyData) : kitB (tn d) "list" = some (aLst d) := by
  cases d <;> first | exact (show kitB "NoneType" "list" = some false by decide +kernel) | exact (show kitB "bool" "list" = some false by decide +kernel) | exact (show kitB "int" "list" = some false by decide +kernel) | exact (show kitB "str" "list" = some false by decide +kernel) | exact (show kitB "list" "list" = some true by decide +kernel) | exact (show kitB "tuple" "list" = some false by decide +kernel) | exact (show kitB "dict" "list" = some false by decide +kernel)
theorem kit_int_lt {K : PySem.W.Frag} : PySem.W.kitAny K (.type "int") [.type "list", .type "tuple"] = some false :=
  kitAny_cons (kit_ty (r := false) (by decide +kernel)) (fun _ => kitAny_cons (kit_ty (r := false) (by decide +kernel)) (fun _ => rfl) (fun e => by cases e)) (fun e => by cases e)
theorem kit_tup_lt {K : PySem.W.Frag} : PySem.W.kitAny K (.type "tuple") [.type "list", .type "tuple"] = some true :=
  kitAny_cons (kit_ty (r := false) (by decide +kernel)) (fun _ => kitAny_cons (kit_ty (r := true) (by decide +kernel)) (fun e => by cases e) (fun _ => rfl)) (fun e => by cases e)
section
variable {P : Program} {w : World} {K : PySem.W.Frag} {mg : Str → Option Value} {base : Heap}
abbrev sSame : Stmt := topS 49
abbrev nSame : List Str := ["_law_found", "_law_due_here", "_law_k"]
theorem scSame : FnScope nSame ["_law_found", "_law_due_here"] (defScope sSame) := ⟨rfl, rfl, rfl, by decide +kernel, rfl, by decide +kernel, by decide +kernel⟩
def spSame0 : Sp := fun vs H Q _ => ∃ (i j : Int), vs = [.int i, .int j] ∧ ∀ H', Keep [] H H' → Q (.bl (decide (i = j))) H'
theorem ok_same0 (h : Has K mg "_law_same" sSame) (B : Blt mg) : Can P w K mg base "_law_same" ["_law_found", "_law_due_here"] 1 spSame0 := by
  obtain ⟨f, fd, F, g⟩ := h
  refine ⟨f, fd, F.ok (k := 0) scSame (fun vs H Q E h => ?_) (fun cdv A outer s H vs Q E hr h => ?_), g, F.kp, F.binds fun _ _ _ _ _ _ us hl => match us, hl with | [_, _], _ => rfl⟩
  · obtain ⟨i, j, rfl, _⟩ := h
    rfl
  · obtain ⟨i, j, rfl, q⟩ := h
    refine ⟨_, pss_cons (ps_if (pt_val (pe_callB call_isiT (by rfl) B.isi boot_isinstance (pa_cons (pv 1) (pa_cons (pe_tup (pa_cons (pe_bltn (v := .ty "list") (by rfl) B.list_ boot_list rfl) (pa_cons (pe_bltn (v := .ty "tuple") (by rfl) B.tuple_ boot_tuple rfl) pa_nil))) pa_nil)))) (pss_cons ps_never
      (pss_cons ps_never
      (pss_one ps_never))) pss_nil)
      (pss_cons (ps_if (pt_cmpR op_isN (pv 1) pe_non (nomark _)) (pss_one ps_never) pss_nil)
      (pss_cons (ps_if (pt_val (pe_callB (call_isD kit_str) (by rfl) B.isi boot_isinstance (pa_cons (pv 1) (pa_cons (pe_bltn (v := .ty "str") (by rfl) B.str_ boot_str rfl) pa_nil)))) (pss_one ps_never) pss_nil)
      (pss_one (ps_ret (pe_and (pe_callB (call_isD kit_int) (by rfl) B.isi boot_isinstance (pa_cons (pv 0) (pa_cons (pe_bltn (v := .ty "int") (by rfl) B.int_ boot_int rfl) pa_nil))) (pe_and (pe_cmpR op_eq (pe_callB (call_isD kit_bool) (by rfl) B.isi boot_isinstance (pa_cons (pv 0) (pa_cons (pe_bltn (v := .ty "bool") (by rfl) B.bool_ boot_bool rfl) pa_nil))) (pe_callB (call_isD kit_bool) (by rfl) B.isi boot_isinstance (pa_cons (pv 1) (pa_cons (pe_bltn (v := .ty "bool") (by rfl) B.bool_ boot_bool rfl) pa_nil))) (nomark _)) (pe_one (pe_cmpR op_eq (pv 0) (pv 1) (nomark _))))))))), ?_⟩
    refine ⟨.int j, rfl, show 2 ≤ sizeLine by decide, fun T nT => ⟨.int j, T, _, .type "int", [.type "list", .type "tuple"], false, rfl, upd_same, .cons (.ty _) (.cons (.ty _) .nil), .base (.int j), kit_int_lt, _, rfl, ?_⟩⟩
    refine iteF ?_
    refine ⟨.int j, rfl, rfl, _, rfl, ?_⟩
    rw [show decide (V.int j = V.non) = false from decide_eq_false (fun e => by cases e)]
    refine iteF ?_
    refine ⟨.int j, rfl, .int j, .int j, [], rfl, .int j, _, rfl, ?_⟩
    refine iteF ?_
    refine ⟨.int i, rfl, .int i, .int i, [], rfl, .int i, _, rfl, ?_⟩
    refine iteT ?_
    refine ⟨.int i, rfl, .int i, .int i, [], rfl, .int i, .int j, rfl, .int j, .int j, [], rfl, .int j, rfl, _, rfl, ?_⟩
    refine iteT ?_
    refine ⟨.int i, rfl, .int j, rfl, rfl, ?_⟩
    have e : decide (V.int i = V.int j) = decide (i = j) := by rw [Bool.eq_iff_iff]; simp
    rw [e]
    exact q _ (Keep.new nT)
end
end Rw

namespace Rw
open PySem PySem.Spec PyProof.Rows L2
/-! rules that several laws' own defs want -/
theorem st {H : Hp} {p b : Addr} {o u : HO} (n : H p = none) (e : H b = some u) : (upd H p o) b = some u := by rw [upd_ne (ne_of_none e n)]; exact e
variable {X : Cx}
def rNilL (K : PySem.W.Frag) (neg : Bool) : R2 := fun x y H Q => ∃ a b xs, x = .ref a ∧ y = .ref b ∧ SqL K H a xs ∧ SqL K H b [] ∧ Q (.bl (if neg then !xs.isEmpty else xs.isEmpty)) H
theorem op_neNilL (hu : X.A.units < cLine) : OpR X (compareOp .NotEq) (rNilL X.K true) := by
  intro pins s σ H x y v u Q I rx ry h
  obtain ⟨a, b, xs, rfl, rfl, ha, hb, q⟩ := h
  cases rx
  cases ry
  obtain ⟨its, r, pl, _⟩ := I.list ha
  obtain ⟨its2, r2, pl2, _⟩ := I.list hb
  cases r2
  have fin : EP X pins σ Q (.bool (!xs.isEmpty)) s := ⟨.bl (!xs.isEmpty), H, I, rfl, q⟩
  cases r with
  | nil => exact SeqAt.RcNeAt.lists (A := X.A) (s := s) (e := fun _ => true) pl.isList pl2.isList rfl hu (fun j j1 _ => absurd j1 (Nat.not_lt_zero j)) X.prog X.w X.xe _ fin
  | cons _ _ => exact SeqAt.RcNeAt.lists_lengths (A := X.A) (s := s) pl.isList pl2.isList (by simp) hu X.prog X.w X.xe _ fin
theorem op_eqNilL (hu : X.A.units < cLine) : OpR X (compareOp .Eq) (rNilL X.K false) := by
  intro pins s σ H x y v u Q I rx ry h
  obtain ⟨a, b, xs, rfl, rfl, ha, hb, q⟩ := h
  cases rx
  cases ry
  obtain ⟨its, r, pl, _⟩ := I.list ha
  obtain ⟨its2, r2, pl2, _⟩ := I.list hb
  cases r2
  have fin : EP X pins σ Q (.bool xs.isEmpty) s := ⟨.bl xs.isEmpty, H, I, rfl, q⟩
  cases r with
  | nil => exact SeqAt.RcAt.lists (A := X.A) (s := s) (e := fun _ => true) pl.isList pl2.isList rfl hu (fun j j1 _ => absurd j1 (Nat.not_lt_zero j)) X.prog X.w X.xe _ fin
  | cons _ _ => exact SeqAt.RcAt.lists_lengths (A := X.A) (s := s) pl.isList pl2.isList (by simp) hu X.prog X.w X.xe _ fin
end Rw

namespace Rw
open PySem PySem.Spec PyProof.Rows L2
theorem Tr.kp {av xs : List Addr} {H H' : Hp} (t : Tr av H) (k : Keep xs H H') (e : Tr xs H') : Tr av H' := fun a m => by
  by_cases h : a ∈ xs
  · exact e a h
  · obtain ⟨o, z⟩ := t a m; exact ⟨o, k a o z h⟩
theorem Keep.fre {xs : List Addr} {H H' : Hp} {p : Addr} (k : Keep xs H H') (e : Tr xs H') (n : H' p = none) : H p = none := by
  cases z : H p with
  | none => rfl
  | some o =>
    by_cases h : p ∈ xs
    · obtain ⟨u, q⟩ := e p h; rw [n] at q; cases q
    · have := k p o z h; rw [n] at this; cases this
/-! ### tuples by their data: made, put together, cut -/
theorem tup_new {av : List Addr} {J : Hp} {xs : List V} {ds : List PyData} {Q : VK} (tr : Tr av J) (dx : Dts av J xs ds) (len : xs.length ≤ 1000) (k : ∀ J' r, Keep [] J J' → Tr av J' → J r = none → Dt av J' (.ref r) (.tuple ds) → Q (.ref r) J') : xs.length ≤ sizeLine ∧ ∀ p, J p = none → Q (.ref p) (upd J p (.tup xs)) :=
  ⟨Nat.le_trans len (show 1000 ≤ sizeLine by decide), fun p np => k _ p (Keep.new np) tr.upd np (.tup (tr.not np) upd_same (dx.keep (Keep.new np)))⟩
theorem tup_facts {av : List Addr} {J : Hp} {xs : List V} {ds : List PyData} {p : Addr} (tr : Tr av J) (dx : Dts av J xs ds) (np : J p = none) : Keep [] J (upd J p (.tup xs)) ∧ Tr av (upd J p (.tup xs)) ∧ Dt av (upd J p (.tup xs)) (.ref p) (.tuple ds) :=
  ⟨Keep.new np, tr.upd, .tup (tr.not np) upd_same (dx.keep (Keep.new np))⟩
theorem tup_at {av : List Addr} {J : Hp} {v : V} {ds : List PyData} (h : Dt av J v (.tuple ds)) : ∃ (a : Addr) (xs : List V), v = .ref a ∧ a ∉ av ∧ J a = some (.tup xs) ∧ Dts av J xs ds := by
  cases h with
  | tup n e d => exact ⟨_, _, rfl, n, e, d⟩
theorem cat_data {K : PySem.W.Frag} {av : List Addr} {J : Hp} {x y : V} {dx dy : List PyData} {Q : VK} (hx : Dt av J x (.tuple dx)) (hy : Dt av J y (.tuple dy)) (tr : Tr av J) (len : dx.length + dy.length ≤ 1000) (k : ∀ J' r, Keep [] J J' → Tr av J' → Dt av J' (.ref r) (.tuple (dx ++ dy)) → Q (.ref r) J') : rCatA K x y J Q := by
  obtain ⟨a, xs, rfl, na, ea, da⟩ := tup_at hx
  obtain ⟨b, ys, rfl, nb, eb, db⟩ := tup_at hy
  have lx := da.len
  have ly := db.len
  refine ⟨a, b, xs, ys, rfl, rfl, SqT.of ea, SqT.of eb, Nat.le_trans (by omega : xs.length + ys.length ≤ 1000) (show 1000 ≤ sizeLine by decide), fun z => ?_, fun _ z => ?_, fun _ _ p np => ?_⟩
  · have : dx = [] := List.eq_nil_of_length_eq_zero (by rw [← lx, z]; rfl)
    exact k J b (Keep.refl _ _) tr (by rw [this, List.nil_append]; exact hy)
  · have : dy = [] := List.eq_nil_of_length_eq_zero (by rw [← ly, z]; rfl)
    exact k J a (Keep.refl _ _) tr (by rw [this, List.append_nil]; exact hx)
  · exact k _ p (Keep.new np) tr.upd (.tup (tr.not np) upd_same ((da.app db).keep (Keep.new np)))
theorem six_nat (n d k : Nat) : HT.sIx n d (some (k : Int)) = min k n := HT.sIx_nat ..
theorem front_data {K : PySem.W.Frag} {av : List Addr} {J : Hp} {x : V} {dx : List PyData} {i : Int} {Q : VK} (hx : Dt av J x (.tuple dx)) (tr : Tr av J) (i0 : 0 ≤ i) (k : ∀ J' r, Keep [] J J' → Tr av J' → Dt av J' (.ref r) (.tuple (dx.take i.toNat)) → Q (.ref r) J') : rSlA K x none (some i) J Q := by
  obtain ⟨a, xs, rfl, na, ea, da⟩ := tup_at hx
  have ei : i = ((i.toNat : Nat) : Int) := by omega
  refine ⟨a, xs, rfl, SqT.of ea, fun z => ?_, fun _ p np => ?_⟩
  · have z2 := z.2
    rw [ei, six_nat] at z2
    exact k J a (Keep.refl _ _) tr (by rw [List.take_of_length_le (by rw [← da.len]; omega)]; exact hx)
  · refine k _ p (Keep.new np) tr.upd (.tup (tr.not np) upd_same ?_)
    rw [show cutV xs none (some i) = xs.take i.toNat by have := cut_to xs i.toNat; rw [← ei] at this; exact this]
    exact (da.take _).keep (Keep.new np)
theorem rear_data {K : PySem.W.Frag} {av : List Addr} {J : Hp} {x : V} {dx : List PyData} {i : Int} {Q : VK} (hx : Dt av J x (.tuple dx)) (tr : Tr av J) (i0 : 0 ≤ i) (k : ∀ J' r, Keep [] J J' → Tr av J' → Dt av J' (.ref r) (.tuple (dx.drop i.toNat)) → Q (.ref r) J') : rSlA K x (some i) none J Q := by
  obtain ⟨a, xs, rfl, na, ea, da⟩ := tup_at hx
  have ei : i = ((i.toNat : Nat) : Int) := by omega
  refine ⟨a, xs, rfl, SqT.of ea, fun z => ?_, fun _ p np => ?_⟩
  · have z1 := z.1
    rw [ei, six_nat] at z1
    refine k J a (Keep.refl _ _) tr ?_
    by_cases c : i.toNat = 0
    · rw [c, List.drop_zero]; exact hx
    · have : xs.length = 0 := by omega
      have : dx = [] := List.eq_nil_of_length_eq_zero (by rw [← da.len]; omega)
      rw [this, List.drop_nil, ← this]; exact hx
  · refine k _ p (Keep.new np) tr.upd (.tup (tr.not np) upd_same ?_)
    rw [show cutV xs (some i) none = xs.drop i.toNat by have := cut_from xs i.toNat; rw [← ei] at this; exact this]
    exact (da.drop _).keep (Keep.new np)
end Rw

namespace Rw
open PySem PySem.Spec PyProof.Rows L2
/-! the deck of great cells' digits, a mixed number and a count (at most b) -/
structure Dk (H : Hp) (D G : Addr) (b : Int) : Prop where
  ex : ∃ (rs : List Int) (wh c : Int), H D = some (.lst [.ref G, .int wh, .int c]) ∧ H G = some (.lst (rs.map V.int)) ∧ rs.length ≤ 100 ∧ (∀ r ∈ rs, 0 ≤ r) ∧ 0 ≤ wh ∧ wh < 2305843009213693951 ∧ 0 ≤ c ∧ c ≤ b
  ne : D ≠ G
theorem Dk.mono {H : Hp} {D G : Addr} {b b' : Int} (x : Dk H D G b) (h : b ≤ b') : Dk H D G b' := by
  obtain ⟨⟨rs, wh, c, e1, e2, e3, e4, e5, e6, e7, e8⟩, n⟩ := x
  exact ⟨⟨rs, wh, c, e1, e2, e3, e4, e5, e6, e7, by omega⟩, n⟩
theorem Dk.keep {H H' : Hp} {D G : Addr} {b : Int} (x : Dk H D G b) (k : Keep [] H H') : Dk H' D G b := by
  obtain ⟨⟨rs, wh, c, e1, e2, r⟩, n⟩ := x
  exact ⟨⟨rs, wh, c, k _ _ e1 List.not_mem_nil, k _ _ e2 List.not_mem_nil, r⟩, n⟩
theorem Dk.other {H : Hp} {D G p : Addr} {b : Int} {o : HO} (x : Dk H D G b) (h1 : p ≠ D) (h2 : p ≠ G) : Dk (upd H p o) D G b := by
  obtain ⟨⟨rs, wh, c, e1, e2, r⟩, n⟩ := x
  exact ⟨⟨rs, wh, c, by rw [upd_ne h1.symm]; exact e1, by rw [upd_ne h2.symm]; exact e2, r⟩, n⟩
theorem Dk.nes {H : Hp} {D G p : Addr} {b : Int} (x : Dk H D G b) (n : H p = none) : p ≠ D ∧ p ≠ G := by
  obtain ⟨⟨rs, wh, c, e1, e2, r⟩, _⟩ := x
  exact ⟨(ne_of_none e1 n).symm, (ne_of_none e2 n).symm⟩
theorem Dk.new {H : Hp} {D G p : Addr} {b : Int} {o : HO} (x : Dk H D G b) (n : H p = none) : Dk (upd H p o) D G b := x.other (x.nes n).1 (x.nes n).2
theorem Dk.tr {H : Hp} {D G : Addr} {b : Int} (x : Dk H D G b) : Tr [D, G] H := fun a m => by
  obtain ⟨⟨rs, wh, c, e1, e2, r⟩, _⟩ := x
  rcases List.mem_cons.mp m with rfl | m
  · exact ⟨_, e1⟩
  · rw [List.mem_singleton.mp m]; exact ⟨_, e2⟩
structure Sg (av : List Addr) (D G : Addr) (H J : Hp) (b : Int) : Prop where
  k : Keep [D, G] H J
  dk : Dk J D G b
  tr : Tr av J
theorem Sg.new {av : List Addr} {D G p : Addr} {H J : Hp} {b : Int} {o : HO} (s : Sg av D G H J b) (n : J p = none) : Sg av D G H (upd J p o) b := ⟨s.k.trans (Keep.new n), s.dk.new n, s.tr.upd⟩
theorem Sg.go {av : List Addr} {D G : Addr} {H J J' : Hp} {b b' : Int} (s : Sg av D G H J b) (k : Keep [D, G] J J') (d : Dk J' D G b') : Sg av D G H J' b' := ⟨s.k.trans k, d, s.tr.kp k d.tr⟩
theorem Sg.kp {av : List Addr} {D G : Addr} {H J J' : Hp} {b : Int} (s : Sg av D G H J b) (k : Keep [] J J') : Sg av D G H J' b := s.go k.of (s.dk.keep k)
theorem Sg.free {av : List Addr} {D G p : Addr} {H J : Hp} {b : Int} (s : Sg av D G H J b) (n : J p = none) : H p = none := s.k.fre s.dk.tr n
theorem Sg.mono {av : List Addr} {D G : Addr} {H J : Hp} {b b' : Int} (s : Sg av D G H J b) (h : b ≤ b') : Sg av D G H J b' := ⟨s.k, s.dk.mono h, s.tr⟩
theorem two_in {D G : Addr} {av : List Addr} (m1 : D ∈ av) (m2 : G ∈ av) : ∀ a ∈ [D, G], a ∈ av := fun a m => by
  rcases List.mem_cons.mp m with rfl | m
  · exact m1
  · rw [List.mem_singleton.mp m]; exact m2
theorem not2 {D G p : Addr} (h : p ≠ D ∧ p ≠ G) : p ∉ [D, G] := fun m => by
  rcases List.mem_cons.mp m with m | m
  · exact h.1 m
  · exact h.2 (List.mem_singleton.mp m)
end Rw

namespace Rw
open PySem PySem.Spec PyProof.Rows L2
theorem pick_in {P : Int → Prop} {xs : List Int} (h : ∀ x ∈ xs, P x) {k : Int} (k0 : 0 ≤ k) (k1 : k < xs.length) : ∃ j, atI (xs.map V.int) k = some (.int j) ∧ P j := by
  have hk : k.toNat < xs.length := by omega
  refine ⟨xs[k.toNat], atI_of k0 ?_, h _ (List.getElem_mem hk)⟩
  rw [List.getElem?_map, List.getElem?_eq_getElem hk]; rfl
theorem con_up {n : Int} {ps : List Pi} (h : ∀ r : Int, 1 ≤ r → r < n → ∃ p ∈ ps, p.y = r ∧ 0 ≤ p.x ∧ p.x < r) : Con n.toNat (edges ps) := by
  intro S hE
  have key : ∀ k : Nat, ∀ a : Nat, a ≤ k → a < n.toNat → S a = S 0 := by
    intro k
    induction k with
    | zero => intro a h0 _; rw [show a = 0 by omega]
    | succ k ih =>
      intro a ha hn
      by_cases z : a ≤ k
      · exact ih a z hn
      · obtain ⟨p, hp, e1, e2, e3⟩ := h (a : Int) (by omega) (by omega)
        have := hE (p.x.toNat, p.y.toNat) (List.mem_map.mpr ⟨p, hp, rfl⟩)
        have z1 : S p.x.toNat = S p.y.toNat := this
        rw [show a = p.y.toNat by omega, ← z1]
        exact ih _ (by omega) (by omega)
  exact fun a ha => key a a (Nat.le_refl _) ha
end Rw

namespace Rw
open PySem PySem.Spec PyProof.Rows L2 TL
/-! ### numbers in figures -/
abbrev tx (i : Int) : Str := Str.ofString (toString i)
theorem tx_tl {i : Int} (h : 0 ≤ i) : tl (tx i) = numL i.toNat := by
  have e : i = ((i.toNat : Nat) : Int) := by omega
  have z := tl_num i.toNat
  rw [← e] at z
  exact z
theorem tx_len {i : Int} (h : 0 ≤ i) {k : Nat} (hk : 0 < k) (hi : i < ((10 ^ k : Nat) : Int)) : (tx i).length ≤ k := by
  rw [len_tl, tx_tl h]
  exact numL_len hk (by omega)
theorem tx_pos {i : Int} (h : 0 ≤ i) : 1 ≤ (tx i).length := by
  rw [len_tl, tx_tl h]
  exact List.length_pos_iff.mpr (numL_ne _)
theorem tx_free {i : Int} (h : 0 ≤ i) {s : Nat} (hs : s < 48 ∨ 57 < s) : s ∉ tl (tx i) := by
  rw [tx_tl h]; exact numL_free hs
theorem numL_head : ∀ (k n : Nat), n ≤ k → 1 ≤ n → ∃ c r, numL n = c :: r ∧ c ≠ 48
  | 0, n, h, h1 => by omega
  | k + 1, n, h, h1 => by
    by_cases c : n < 10
    · exact ⟨48 + n, [], numL_lt c, by omega⟩
    · obtain ⟨c', r, e, ne⟩ := numL_head k (n / 10) (by omega) (by omega)
      exact ⟨c', r ++ [48 + n % 10], by rw [numL_step (by omega), e]; rfl, ne⟩
theorem tx_head {i : Int} (h : 0 ≤ i) : ∃ c r, tl (tx i) = c :: r ∧ (c = 48 → r = []) := by
  rw [tx_tl h]
  by_cases z : i.toNat = 0
  · rw [z]
    exact ⟨48, [], numL_lt (by decide), fun _ => rfl⟩
  · obtain ⟨c, r, e, ne⟩ := numL_head i.toNat i.toNat (Nat.le_refl _) (by omega)
    exact ⟨c, r, e, fun z => absurd z ne⟩
theorem tx_int {i : Int} (h : 0 ≤ i) (hl : (tx i).length ≤ 640) : intText? (tx i) = some i := by
  have e : i = ((i.toNat : Nat) : Int) := by omega
  have z := int_num (n := i.toNat) (by rw [← tx_tl h, ← len_tl]; omega)
  rw [← e] at z
  exact z
theorem tx_dig {i : Int} (h : 0 ≤ i) : ∀ c ∈ tl (tx i), 48 ≤ c ∧ c ≤ 57 := by
  rw [tx_tl h]
  intro c hc
  by_cases z : c < 48 ∨ 57 < c
  · exact absurd hc (numL_free z)
  · omega
theorem tx_log {i : Int} (h : 0 ≤ i) (hi : i ≤ 1000000000000000) : i.natAbs.log2 < 1920 := by
  have e : i.natAbs < 2 ^ 60 := by have : (2 : Nat) ^ 60 = 1152921504606846976 := by decide
                                   omega
  by_cases z : i.natAbs = 0
  · rw [z]; decide
  · exact Nat.lt_of_lt_of_le ((Nat.log2_lt z).mpr e) (by decide)
/-! texts put together -/
theorem join_one (y a : Str) : Txt.join y [a] = a := by
  rw [join_eq]
  refine ext_tl ?_
  rw [tl_join]; rfl
theorem join_two (y a b : Str) : Txt.join y [a, b] = a ++ y ++ b := by
  rw [join_eq]
  refine ext_tl ?_
  rw [tl_join, tl_append, tl_append]
  simp [joinL]
theorem len_app (a b : Str) : (a ++ b).length = a.length + b.length := by rw [len_tl, len_tl, len_tl, tl_append, List.length_append]
theorem app_assoc (a b c : Str) : a ++ b ++ c = a ++ (b ++ c) := ext_tl (by rw [tl_append, tl_append, tl_append, tl_append, List.append_assoc])
abbrev plusT : Str := Str.ofString "+"
abbrev blankT : Str := Str.ofString " "
abbrev crossT : Str := Str.ofString "x"
theorem plus_tl : tl plusT = [43] := by decide +kernel
theorem blank_tl : tl blankT = [32] := by decide +kernel
theorem cross_tl : tl crossT = [120] := by decide +kernel
def ptx : List Int → Str
  | [i, a] => tx i ++ plusT ++ tx a
  | [r] => tx r
  | _ => Str.empty
def okT : List Int → Prop
  | [i, a] => 0 ≤ i ∧ i < 1000000000000000 ∧ 1 ≤ a ∧ a < 1000000000000000
  | [r] => 0 ≤ r ∧ r < 1000000000000000
  | _ => False
theorem okT_cases {p : List Int} (h : okT p) : (∃ r, p = [r] ∧ 0 ≤ r ∧ r < 1000000000000000) ∨ ∃ i a, p = [i, a] ∧ 0 ≤ i ∧ i < 1000000000000000 ∧ 1 ≤ a ∧ a < 1000000000000000 := by
  match p, h with
  | [r], h => exact .inl ⟨r, rfl, h⟩
  | [i, a], h => exact .inr ⟨i, a, rfl, h⟩
theorem len15 {i : Int} (h : 0 ≤ i) (hi : i < 1000000000000000) : (tx i).length ≤ 15 := tx_len h (by decide) (by have : ((10 ^ 15 : Nat) : Int) = 1000000000000000 := by decide
                                                                                                                 omega)
theorem ptx_len {p : List Int} (h : okT p) : (ptx p).length ≤ 31 := by
  rcases okT_cases h with ⟨r, rfl, r0, r1⟩ | ⟨i, a, rfl, i0, i1, a0, a1⟩
  · have := len15 r0 r1
    show (tx r).length ≤ 31; omega
  · have h1 := len15 i0 i1
    have h2 := len15 (show 0 ≤ a by omega) a1
    have h3 : plusT.length = 1 := by decide +kernel
    show (tx i ++ plusT ++ tx a).length ≤ 31
    rw [len_app, len_app]; omega
theorem ptx_free {p : List Int} (h : okT p) : 32 ∉ tl (ptx p) := by
  rcases okT_cases h with ⟨r, rfl, r0, r1⟩ | ⟨i, a, rfl, i0, i1, a0, a1⟩
  · exact tx_free r0 (by decide)
  · show 32 ∉ tl (tx i ++ plusT ++ tx a)
    rw [tl_append, tl_append, plus_tl]
    intro m
    rcases List.mem_append.mp m with m | m
    · rcases List.mem_append.mp m with m | m
      · exact tx_free i0 (by decide) m
      · simp at m
    · exact tx_free (show 0 ≤ a by omega) (by decide) m
theorem cr_repr_str {X : Cx} : CallR X (.builtin "repr") (fun xs H Q => ∃ a, xs = [.str a] ∧ (reprText a).length ≤ sizeLine ∧ Q (.str (reprText a)) H) := by
  intro pins s σ H args vals Q I r ask
  obtain ⟨a, rfl, hz, q⟩ := ask
  obtain ⟨u, rfl, t, rfl⟩ := vals1 r
  exact PySem.P.repr_of_str ⟨.str _, H, I.tok _, ⟨_, rfl⟩, q⟩ hz
end Rw

namespace Rw
open PySem PySem.Spec PyProof.Rows L2 TL
/-- over a text's signs -/
theorem lc_txt {x : Str} {g : TG} {tt : TT} {te : TE} {vs : List Nat} {σ : L2.St} {H1 : Hp} {D : Addr} {Qd : Hp → Prop} (Pv : Nat → Hp → Prop) (h0 : Pv 0 (upd H1 D (.lst [])))
    (hs : ∀ i c H, (tl x)[i]? = some c → Pv i H → g (.str ⟨#[c]⟩) (wipe σ vs) H fun σ2 H2 => wipe σ2 vs = wipe σ vs ∧ tt σ2 H2 fun b H3 =>
      if b = true then te σ2 H3 fun y H4 => ∃ acc, H4 D = some (.lst acc) ∧ acc.length < sizeLine ∧ Pv (i + 1) (upd H4 D (.lst (acc ++ [y]))) else Pv (i + 1) H3) (hd : ∀ H, Pv (tl x).length H → Qd H) :
    ∃ W : Nat → Nat → Hp → Prop, (∃ m, W 0 m (upd H1 D (.lst []))) ∧ ∀ i m H, W i m H →
      ((Its x).stop i H ∧ Qd H) ∨ ((Its x).go i H ∧ ∃ Nx : Hp → Prop, (∀ H', Nx H' → ∃ m', m' < m ∧ W (i + 1) m' H') ∧ ∀ v H', (Its x).yld i H v H' → g v (wipe σ vs) H' fun σ2 H2 => wipe σ2 vs = wipe σ vs ∧ tt σ2 H2 fun b H3 =>
        if b = true then te σ2 H3 fun y H4 => ∃ acc, H4 D = some (.lst acc) ∧ acc.length < sizeLine ∧ Nx (upd H4 D (.lst (acc ++ [y]))) else Nx H3) := by
  refine ⟨fun i m H => m + i = (tl x).length ∧ Pv i H, ⟨(tl x).length, rfl, h0⟩, fun i m H w => ?_⟩
  obtain ⟨wm, p⟩ := w
  have sz : x.cps.size = (tl x).length := Array.length_toList.symm
  match m, wm with
  | 0, wm =>
    have e : i = (tl x).length := by omega
    exact .inl ⟨show x.cps.size ≤ i by omega, hd H (e ▸ p)⟩
  | m + 1, wm =>
    refine .inr ⟨show i < x.cps.size by omega, Pv (i + 1), fun G pG => ⟨m, Nat.lt_succ_self m, by omega, pG⟩, fun v G y => ?_⟩
    obtain ⟨rfl, c, hc, rfl⟩ := y
    exact hs i c _ (by rw [Array.getElem?_toList]; exact hc) p
abbrev figT : Str := Str.ofString "0123456789"
theorem fig_in {c : Nat} (h : 48 ≤ c ∧ c ≤ 57) : decide (c ∈ figT.cps.toList) = true := by
  have e : figT.cps.toList = [48, 49, 50, 51, 52, 53, 54, 55, 56, 57] := by decide +kernel
  rw [e]
  refine decide_eq_true ?_
  simp only [List.mem_cons, List.not_mem_nil, or_false]
  omega
end Rw

namespace Rw
open PySem PySem.Spec PyProof.Rows L2 TL
end Rw

namespace Rw
open PySem PySem.Spec PyProof.Rows L2 TL
theorem units65 {k : Nat} {A : Around} (r : Room k A) : A.units + 65 < cLine := by have := r.un; omega
def ktx (k : Int × Int) : Str := tx k.1 ++ crossT ++ tx k.2
def okK (k : Int × Int) : Prop := 0 ≤ k.1 ∧ k.1 < 1000000000000000 ∧ 0 ≤ k.2 ∧ k.2 < 1000000000000000
def rtx (l : Int) (ks : List (Int × Int)) : Str := Txt.join blankT (tx l :: ks.map ktx)
def ropeD (l : Int) (ks : List (Int × Int)) : PyData := .tuple [.int l, .tuple (ks.map prD)]
theorem emp_app (a : Str) : Str.empty ++ a = a := ext_tl (by rw [tl_append]; rfl)
theorem cross_len : crossT.length = 1 := by decide +kernel
theorem blank_len : blankT.length = 1 := by decide +kernel
theorem ktx_len {k : Int × Int} (h : okK k) : (ktx k).length ≤ 31 := by
  have h1 := len15 h.1 h.2.1
  have h2 := len15 h.2.2.1 h.2.2.2
  have := cross_len
  unfold ktx
  rw [len_app, len_app]; omega
theorem ktx_free {k : Int × Int} (h : okK k) : 32 ∉ tl (ktx k) := by
  unfold ktx
  rw [tl_append, tl_append, cross_tl]
  intro m
  rcases List.mem_append.mp m with m | m
  · rcases List.mem_append.mp m with m | m
    · exact tx_free h.1 (by decide) m
    · simp at m
  · exact tx_free h.2.2.1 (by decide) m
theorem sum_len : ∀ {ys : List Str}, (∀ y ∈ ys, y.length ≤ 31) → (ys.map (·.length)).sum ≤ 31 * ys.length
  | [], _ => Nat.le_refl _
  | y :: ys, h => by
    have h1 := h y List.mem_cons_self
    have h2 := sum_len (ys := ys) fun z m => h z (List.mem_cons_of_mem _ m)
    rw [List.map_cons, List.sum_cons, List.length_cons]; omega
theorem join_len (y : Str) : ∀ (ys : List Str), (Txt.join y ys).length ≤ (ys.map (·.length)).sum + ys.length * y.length
  | [] => by rw [join_eq, len_tl, tl_join]; exact Nat.zero_le _
  | [a] => by rw [join_one]; show a.length ≤ a.length + 0 + 1 * y.length; omega
  | a :: b :: l => by
    have ih := join_len y (b :: l)
    have e : Txt.join y (a :: b :: l) = a ++ y ++ Txt.join y (b :: l) := by
      rw [join_eq, join_eq]
      refine ext_tl ?_
      rw [tl_join, tl_append, tl_append, tl_join]
      simp [joinL]
    rw [e, len_app, len_app, List.map_cons, List.sum_cons, List.length_cons]
    have : (l.length + 1 + 1) * y.length = (l.length + 1) * y.length + y.length := by rw [Nat.succ_mul]
    rw [List.length_cons] at ih ⊢
    omega
theorem lst_step {av : List Addr} {G G2 : Hp} {W : Addr} {vs : List V} {y : V} {ds : List PyData} {d : PyData} (dv : Dts (W :: av) G vs ds) (k : Keep (W :: av) G G2) (dy : Dt (W :: av) G2 y d) : Dts (W :: av) (upd G2 W (.lst (vs ++ [y]))) (vs ++ [y]) (ds ++ [d]) :=
  ((dv.keep k).app (.cons dy .nil)).keep (Keep.put List.mem_cons_self)
theorem tup_lay (p : List Int) : PyData.canLay0 (tupI p) = true := by
  show PyData.canLay0 (.tuple (p.map .int)) = true
  simp only [PyData.canLay0, tupI_lay p]
theorem tup_depth (p : List Int) : PyData.depth (tupI p) = 1 := by
  show PyData.depth (.tuple (p.map .int)) = 1
  simp [PyData.depth, tupI_depths p]
end Rw

namespace Rw
open PySem PySem.Spec PyProof.Rows L2 TL
end Rw

namespace Rw
open PySem PySem.Spec PyProof.Rows L2 TL
def rising (lo hi : Int) : List (Int × Int) → Prop
  | [] => True
  | k :: ks => lo ≤ k.1 ∧ k.1 ≤ hi ∧ rising (k.1 + 1) hi ks
def okR (l : Int) (ks : List (Int × Int)) : Prop := 1 ≤ l ∧ l ≤ 100000000000000 ∧ rising 0 l ks ∧ (∀ k ∈ ks, 1 ≤ k.2 ∧ k.2 ≤ 1000000) ∧ ks.length ≤ 4
theorem rising_in : ∀ {ks : List (Int × Int)} {lo hi : Int}, rising lo hi ks → ∀ k ∈ ks, lo ≤ k.1 ∧ k.1 ≤ hi
  | [], _, _, _, k, m => nomatch m
  | p :: ks, lo, hi, h, k, m => by
    rcases List.mem_cons.mp m with rfl | m
    · exact ⟨h.1, h.2.1⟩
    · have := rising_in h.2.2 k m
      have := h.1
      omega
theorem okR_K {l : Int} {ks : List (Int × Int)} (h : okR l ks) : ∀ k ∈ ks, okK k := fun k m => by
  obtain ⟨l1, l2, r, s, _⟩ := h
  have h1 := rising_in r k m
  have h2 := s k m
  exact ⟨h1.1, by omega, by omega, by omega⟩
theorem drop_rest {ks : List (Int × Int)} {i : Nat} {k : Int × Int} (h : ks[i]? = some k) : ks.drop i = k :: ks.drop (i + 1) := by
  obtain ⟨hl, e⟩ := List.getElem?_eq_some_iff.mp h
  rw [List.drop_eq_getElem_cons hl, e]
theorem pr_at {H : Hp} {x : V} {k : Int × Int} (dx : Dt [] H x (prD k)) : ∃ b, x = .ref b ∧ H b = some (.tup [.int k.1, .int k.2]) := by
  obtain ⟨b, ys, rfl, _, eb, db⟩ := tup_at dx
  have hys : ys = [.int k.1, .int k.2] := Dts.unints (ns := [k.1, k.2]) db
  subst hys
  exact ⟨b, rfl, eb⟩
theorem within_yes {i lo hi : Int} (h1 : lo ≤ i) (h2 : i ≤ hi) : within (.int i) lo hi = true := by
  show (decide (lo ≤ i) && decide (i ≤ hi)) = true
  rw [decide_eq_true h1, decide_eq_true h2]; rfl
end Rw

namespace Rw
open PySem PySem.Spec PyProof.Rows L2 TL
theorem join_cons (y a b : Str) (l : List Str) : Txt.join y (a :: b :: l) = a ++ y ++ Txt.join y (b :: l) := by
  rw [join_eq, join_eq]
  refine ext_tl ?_
  rw [tl_join, tl_append, tl_append, tl_join]
  simp [joinL]
theorem join_snoc (y b : Str) : ∀ (a : Str) (l : List Str), Txt.join y (a :: (l ++ [b])) = Txt.join y (a :: l) ++ y ++ b
  | a, [] => by rw [List.nil_append, join_two, join_one]
  | a, c :: l => by
    rw [List.cons_append, join_cons, join_snoc y b c l, join_cons, app_assoc, app_assoc, app_assoc, app_assoc, app_assoc]
theorem rtx_nil (l : Int) : rtx l [] = tx l := join_one _ _
theorem rtx_snoc (l : Int) (ks : List (Int × Int)) (k : Int × Int) : rtx l (ks ++ [k]) = rtx l ks ++ blankT ++ tx k.1 ++ crossT ++ tx k.2 := by
  unfold rtx
  rw [List.map_append, List.map_cons, List.map_nil, join_snoc]
  unfold ktx
  rw [app_assoc, app_assoc, app_assoc, app_assoc, app_assoc]
def small (x : Str) : Prop := ∀ c ∈ tl x, c < 128
theorem small.app {a b : Str} (h1 : small a) (h2 : small b) : small (a ++ b) := fun c m => by
  rw [tl_append] at m
  rcases List.mem_append.mp m with m | m
  · exact h1 c m
  · exact h2 c m
theorem small_tx {i : Int} (h : 0 ≤ i) : small (tx i) := fun c m => by have := tx_dig h c m; omega
theorem small_plus : small plusT := fun c m => by rw [plus_tl] at m; rw [List.mem_singleton.mp m]; decide
theorem small_blank : small blankT := fun c m => by rw [blank_tl] at m; rw [List.mem_singleton.mp m]; decide
theorem small_cross : small crossT := fun c m => by rw [cross_tl] at m; rw [List.mem_singleton.mp m]; decide
theorem small_ptx {p : List Int} (h : okT p) : small (ptx p) := by
  rcases okT_cases h with ⟨r, rfl, r0, r1⟩ | ⟨i, a, rfl, i0, i1, a0, a1⟩
  · exact small_tx r0
  · exact ((small_tx i0).app small_plus).app (small_tx (by omega))
theorem rtx_ok0 (l : Int) (l0 : 0 ≤ l) (l1 : l < 1000000000000000) : ∀ (n : Nat) (ks : List (Int × Int)), ks.length = n → (∀ k ∈ ks, okK k) → small (rtx l ks) ∧ (rtx l ks).length ≤ 15 + 32 * n
  | 0, ks, e, _ => by
    rw [List.eq_nil_of_length_eq_zero e, rtx_nil]
    exact ⟨small_tx l0, len15 l0 l1⟩
  | n + 1, ks, e, h => by
    rcases List.eq_nil_or_concat ks with rfl | ⟨ks', k, rfl⟩
    · cases e
    · rw [List.concat_eq_append] at e h ⊢
      rw [List.length_append] at e
      obtain ⟨h1, h2⟩ := rtx_ok0 l l0 l1 n ks' (by simpa using e) fun z m => h z (List.mem_append_left _ m)
      have hk := h k (List.mem_append_right _ List.mem_cons_self)
      rw [rtx_snoc]
      have a1 := len15 hk.1 hk.2.1
      have a2 := len15 hk.2.2.1 hk.2.2.2
      have a3 := cross_len
      have a4 := blank_len
      refine ⟨(((h1.app small_blank).app (small_tx hk.1)).app small_cross).app (small_tx hk.2.2.1), ?_⟩
      rw [len_app, len_app, len_app, len_app]
      omega
theorem rtx_ok (l : Int) (ks : List (Int × Int)) (l0 : 0 ≤ l) (l1 : l < 1000000000000000) (h : ∀ k ∈ ks, okK k) : small (rtx l ks) ∧ (rtx l ks).length ≤ 15 + 32 * ks.length := rtx_ok0 l l0 l1 _ ks rfl h
theorem repr_fits {x : Str} (h : small x) (hl : x.length ≤ 1000) : (reprText x).length ≤ sizeLine :=
  Nat.le_trans (StrLaws.reprText_len x fun c m => Nat.lt_of_lt_of_le (h c m) (by decide)) (Nat.le_trans (by omega : _ ≤ 20000) (show 20000 ≤ sizeLine by decide))
end Rw

namespace Rw
open PySem PySem.Spec PyProof.Rows L2 TL
end Rw

namespace Rw
open PySem PySem.Spec PyProof.Rows L2
/-! the deck: cells, how many are used, what is left of one, a count (at most b) -/
structure Dq (H : Hp) (D C : Addr) (b : Int) : Prop where
  ex : ∃ (cs : List Int) (j r t : Int), H D = some (.lst [.ref C, .int j, .int r, .int t]) ∧ H C = some (.lst (cs.map V.int)) ∧ cs.length ≤ 63 ∧ (∀ c ∈ cs, 0 ≤ c) ∧ 0 ≤ j ∧ 0 ≤ r ∧ 0 ≤ t ∧ t ≤ b
  ne : D ≠ C
theorem Dq.mono {H : Hp} {D C : Addr} {b b' : Int} (x : Dq H D C b) (h : b ≤ b') : Dq H D C b' := by
  obtain ⟨⟨cs, j, r, t, e1, e2, e3, e4, e5, e6, e7, e8⟩, n⟩ := x
  exact ⟨⟨cs, j, r, t, e1, e2, e3, e4, e5, e6, e7, by omega⟩, n⟩
theorem Dq.keep {H H' : Hp} {D C : Addr} {b : Int} (x : Dq H D C b) (k : Keep [] H H') : Dq H' D C b := by
  obtain ⟨⟨cs, j, r, t, e1, e2, z⟩, n⟩ := x
  exact ⟨⟨cs, j, r, t, k _ _ e1 List.not_mem_nil, k _ _ e2 List.not_mem_nil, z⟩, n⟩
theorem Dq.other {H : Hp} {D C p : Addr} {b : Int} {o : HO} (x : Dq H D C b) (h1 : p ≠ D) (h2 : p ≠ C) : Dq (upd H p o) D C b := by
  obtain ⟨⟨cs, j, r, t, e1, e2, z⟩, n⟩ := x
  exact ⟨⟨cs, j, r, t, by rw [upd_ne h1.symm]; exact e1, by rw [upd_ne h2.symm]; exact e2, z⟩, n⟩
theorem Dq.nes {H : Hp} {D C p : Addr} {b : Int} (x : Dq H D C b) (n : H p = none) : p ≠ D ∧ p ≠ C := by
  obtain ⟨⟨cs, j, r, t, e1, e2, z⟩, _⟩ := x
  exact ⟨(ne_of_none e1 n).symm, (ne_of_none e2 n).symm⟩
theorem Dq.new {H : Hp} {D C p : Addr} {b : Int} {o : HO} (x : Dq H D C b) (n : H p = none) : Dq (upd H p o) D C b := x.other (x.nes n).1 (x.nes n).2
theorem Dq.tr {H : Hp} {D C : Addr} {b : Int} (x : Dq H D C b) : Tr [D] H := fun a m => by
  obtain ⟨⟨cs, j, r, t, e1, e2, z⟩, _⟩ := x
  rw [List.mem_singleton.mp m]; exact ⟨_, e1⟩
theorem pick_at {xs : List Int} {k : Int} (k0 : 0 ≤ k) (k1 : k < (xs.length : Int)) : ∃ v ∈ xs, atI (xs.map V.int) k = some (.int v) := by
  have ge : xs[k.toNat]? = some xs[k.toNat] := List.getElem?_eq_getElem (by omega)
  exact ⟨_, List.getElem_mem _, atI_of k0 (by rw [List.getElem?_map, ge]; rfl)⟩
end Rw

namespace Rw
open PySem PySem.Spec PyProof.Rows L2
theorem rising_of : ∀ {ks : List (Int × Int)} {lo hi : Int}, (ks.map Prod.fst).Pairwise (· < ·) → (∀ k ∈ ks, lo ≤ k.1 ∧ k.1 ≤ hi) → rising lo hi ks
  | [], _, _, _, _ => trivial
  | k :: ks, lo, hi, pw, h => by
    rw [List.map_cons, List.pairwise_cons] at pw
    have hk := h k List.mem_cons_self
    refine ⟨hk.1, hk.2, rising_of pw.2 fun z m => ?_⟩
    have h1 := pw.1 z.1 (List.mem_map_of_mem m)
    have h2 := h z (List.mem_cons_of_mem _ m)
    exact ⟨by omega, h2.2⟩
theorem not1 {D p : Addr} (h : p ≠ D) : p ∉ [D] := fun m => h (List.mem_singleton.mp m)
theorem one_in {D : Addr} {av : List Addr} (m : D ∈ av) : ∀ a ∈ [D], a ∈ av := fun a h => by rw [List.mem_singleton.mp h]; exact m
theorem e15 : (10 : Int) ^ Int.toNat 15 = 1000000000000000 := by decide
theorem e14 : (10 : Int) ^ Int.toNat 14 = 100000000000000 := by decide
theorem e6 : (10 : Int) ^ Int.toNat 6 = 1000000 := by decide
theorem Dq.free {H H' : Hp} {D C p : Addr} {b : Int} (d : Dq H' D C b) (k : Keep [D] H H') (n : H' p = none) : H p = none := k.fre d.tr n
end Rw

namespace Rw
open PySem PySem.Spec PyProof.Rows L2 TL
/-! ### data shown: how deep and how long, and repr of it where nothing else is being shown -/
structure Sw (k n : Nat) (d : PyData) : Prop where
  lay : d.canLay0 = true
  sh : d.showable = true
  dp : d.depth ≤ k
  ln : d.shown.length ≤ n
theorem Sw.mono {k n k' n' : Nat} {d : PyData} (h : Sw k n d) (h1 : k ≤ k') (h2 : n ≤ n') : Sw k' n' d := ⟨h.lay, h.sh, Nat.le_trans h.dp h1, Nat.le_trans h.ln h2⟩
theorem sw_all {k n : Nat} : ∀ ds : List PyData, (∀ d ∈ ds, Sw k n d) → PyData.canLayAll0 ds = true ∧ PyData.showableAll ds = true ∧ PyData.depthAll ds ≤ k ∧ ((PyData.shownAll ds).map (·.length)).sum ≤ ds.length * n ∧ (PyData.shownAll ds).length = ds.length
  | [], _ => by
    refine ⟨by simp only [PyData.canLayAll0], by simp only [PyData.showableAll], by simp only [PyData.depthAll]; omega, ?_, ?_⟩
    · simp only [PyData.shownAll]; exact Nat.zero_le _
    · simp only [PyData.shownAll]; rfl
  | d :: ds, h => by
    have hd := h d List.mem_cons_self
    obtain ⟨a1, a2, a3, a4, a5⟩ := sw_all ds fun z m => h z (List.mem_cons_of_mem _ m)
    have e1 := hd.dp
    have e2 := hd.ln
    refine ⟨by simp only [PyData.canLayAll0, hd.lay, a1, Bool.and_true], by simp only [PyData.showableAll, hd.sh, a2, Bool.and_true], ?_, ?_, ?_⟩
    · simp only [PyData.depthAll]; omega
    · simp only [PyData.shownAll, List.map_cons, List.sum_cons, List.length_cons]
      rw [Nat.succ_mul]; omega
    · simp only [PyData.shownAll, List.length_cons, a5]
theorem Sw.tup {k n m : Nat} {ds : List PyData} (h : ∀ d ∈ ds, Sw k n d) (hm : ds.length ≤ m) : Sw (k + 1) (m * (n + 2) + 3) (.tuple ds) := by
  obtain ⟨a1, a2, a3, a4, a5⟩ := sw_all ds h
  refine ⟨by simp only [PyData.canLay0, a1], by simp only [PyData.showable, a2], by simp only [PyData.depth]; omega, ?_⟩
  have h2 := tupleText_len_le (PyData.shownAll ds)
  have h3 : ds.length * (n + 2) ≤ m * (n + 2) := Nat.mul_le_mul hm (Nat.le_refl _)
  have h4 : ds.length * (n + 2) = ds.length * n + 2 * ds.length := by rw [Nat.mul_add]; omega
  simp only [PyData.shown]
  omega
theorem Sw.lst {k n m : Nat} {ds : List PyData} (h : ∀ d ∈ ds, Sw k n d) (hm : ds.length ≤ m) : Sw (k + 1) (m * (n + 2) + 3) (.list ds) := by
  obtain ⟨a1, a2, a3, a4, a5⟩ := sw_all ds h
  refine ⟨by simp only [PyData.canLay0, a1], by simp only [PyData.showable, a2], by simp only [PyData.depth]; omega, ?_⟩
  have h2 := listText_len_le (PyData.shownAll ds)
  have h3 : ds.length * (n + 2) ≤ m * (n + 2) := Nat.mul_le_mul hm (Nat.le_refl _)
  have h4 : ds.length * (n + 2) = ds.length * n + 2 * ds.length := by rw [Nat.mul_add]; omega
  simp only [PyData.shown]
  omega
theorem Sw.int {i : Int} (h0 : 0 ≤ i) (h1 : i < 1000000000000000) : Sw 0 16 (.int i) := by
  have l := len15 h0 h1
  refine ⟨by simp only [PyData.canLay0], ?_, by simp only [PyData.depth]; omega, ?_⟩
  · simp only [PyData.showable]; exact decide_eq_true (tx_log h0 (by omega))
  · show (tx i).length ≤ 16; omega
section
variable {X : Cx}
def rReprT : List V → Hp → VK → Prop := fun xs H Q => ∃ (a : Addr) (d : PyData) (n : Nat), xs = [.ref a] ∧ Dt [] H (.ref a) d ∧ Sw 60 n d ∧ n ≤ 100000 ∧ Q (.str d.shown) H
theorem cr_reprT (hg : X.A.guards = some []) (hu : X.A.units + 70 < cLine) : CallR X (.builtin "repr") rReprT := by
  intro pins s σ H xs us Q I r h
  obtain ⟨a, d, n, rfl, hd, sw, hn, q⟩ := h
  obtain ⟨u, rfl, ru⟩ := vals1 r
  obtain ⟨as, rd⟩ := Dp.reads I d _ _ (Dt.dp d _ hd sw.lay) ru
  cases ru
  have e1 := sw.dp
  have e2 := sw.ln
  have sz : (100000 : Nat) ≤ sizeLine := by decide
  exact repr_of_reads' rd sw.sh (PyData.noDict_hsm (PyData.hasDict_of_canLay d sw.lay)) hg (by omega) (fun _ _ e => e) (fun h' t tk k => ⟨.str d.shown, H, I.kept (t' := tk) k, ⟨t, rfl⟩, q⟩) (by omega)
end
theorem units70 {k : Nat} {A : Around} (r : Room k A) : A.units + 70 < cLine := by have := r.un; omega
end Rw

namespace Rw
open PySem PySem.Spec PyProof.Rows L2
structure okH (n : Int) (ps : List Pi) : Prop where
  n1 : 1 ≤ n
  n16 : n ≤ 16
  len : (ps.length : Int) + 1 = n
  ok : ∀ p ∈ ps, p.ok n
  con : Con n.toNat (edges ps)
  na : (ps.map fun p => p.na.length).sum ≤ 12
  fl : (ps.map fun p => p.fl.length).sum ≤ 6
theorem rise_fit {lo hi : Int} {ks : List (Int × Int)} (pw : (ks.map (·.1)).Pairwise (· < ·)) (h : ∀ k ∈ ks, lo ≤ k.1 ∧ k.1 ≤ hi) : rising lo hi ks := rising_of pw h
theorem pipe_is {H : Hp} {v : V} {p : Pi} (h : Dt [] H v p.dat) : ∃ a v3 v4, v = .ref a ∧ H a = some (.tup [.int p.x, .int p.y, .int p.l, v3, v4]) ∧ Dt [] H v3 (.tuple (p.na.map prD)) ∧ Dt [] H v4 (.tuple (p.fl.map prD)) := by
  obtain ⟨a, xs, rfl, _, ea, da⟩ := tup_at h
  cases da with
  | cons d1 da => cases d1; cases da with
    | cons d2 da => cases d2; cases da with
      | cons d3 da => cases d3; cases da with
        | cons d4 da => cases da with
          | cons d5 da => cases da; exact ⟨a, _, _, rfl, ea, d4, d5⟩
theorem at_grp {gs : List Int} {x : Int} (h0 : 0 ≤ x) (h : x < gs.length) : atI (gs.map V.int) x = some (.int (grp gs x.toNat)) := by
  refine atI_of h0 ?_
  rw [List.getElem?_map, List.getElem?_eq_getElem (by omega)]
  unfold grp
  rw [List.getD_eq_getElem?_getD, List.getElem?_eq_getElem (by omega)]; rfl
theorem rg_start {r : Int} (h : 0 ≤ r) : rgV 0 r = (Rw.start r.toNat).map V.int := by
  unfold rgV Rw.start
  rw [List.map_map, Int.sub_zero]
  apply List.map_congr_left
  intro a _
  show V.int (0 + (a : Int)) = V.int (Int.ofNat a)
  rw [Int.zero_add]; rfl
theorem sum_ints (ns : List Nat) : (ns.map fun (n : Nat) => (n : Int)).sum = ((ns.sum : Nat) : Int) := by
  induction ns with
  | nil => rfl
  | cons n ns ih => rw [List.map_cons, List.sum_cons, List.sum_cons, ih]; omega
theorem okH.join {n : Int} {ps : List Pi} (h : okH n ps) : joins (Rw.start n.toNat) (edges ps) = true := by
  have h1 := h.n1
  have h2 := h.len
  refine (joins_iff (by omega) (fun e he => ?_) (by unfold edges; rw [List.length_map]; omega)).mpr h.con
  obtain ⟨p, mp, rfl⟩ := List.mem_map.mp he
  have o := h.ok p mp
  have a1 := o.x0
  have a2 := o.x1
  have a3 := o.y0
  have a4 := o.y1
  exact ⟨by show p.x.toNat < n.toNat; omega, by show p.y.toNat < n.toNat; omega⟩
section
variable {P : Program} {w : World} {K : PySem.W.Frag} {mg : Str → Option Value} {base : Heap}
abbrev sFW : Stmt := topS 30
abbrev nFW : List Str := ["thing"]
theorem scFW : FnScope nFW ["thing"] (defScope sFW) := ⟨rfl, rfl, rfl, by decide +kernel, rfl, by decide +kernel, by decide +kernel⟩
def spFW : Sp := fun vs H Q _ => ∃ (i : Int), vs = [.int i] ∧ (i = 1 ∨ i = -1) ∧ ∀ H', Keep [] H H' → Q (.bl true) H'
theorem ok_fW (h : Has K mg "is_flap_way" sFW) (CH : Can P w K mg base "is_whole" ["thing"] 1 spWhole) : Can P w K mg base "is_flap_way" ["thing"] 2 spFW := by
  obtain ⟨f, fd, F, g⟩ := h
  refine ⟨f, fd, F.ok (k := 1) scFW (fun vs H Q E h => ?_) (fun cdv A outer s H vs Q E hr h => ?_), g, F.kp, F.binds fun _ _ _ _ _ _ us hl => match us, hl with | [_], _ => rfl⟩
  · obtain ⟨i, rfl, _⟩ := h
    rfl
  · obtain ⟨i, rfl, hi, q⟩ := h
    refine ⟨_, pss_one (ps_ret (pe_and (pe_can CH (hr.mono (by decide)) (by rfl) (pa_cons (pv 0) pa_nil)) (pe_one (pe_cmpR op_in_seq (pv 0) (pe_tup (pa_cons pe_int (pa_cons (pe_un un_neg pe_int) pa_nil))) rfl)))), ?_⟩
    refine ⟨.int i, rfl, .int i, .int i, [], rfl, .int i, _, rfl, iteT ?_⟩
    refine ⟨.int i, rfl, 1, rfl, show 2 ≤ sizeLine by decide, fun t nt => ?_⟩
    refine ⟨t, [.int 1, .int (-1)], rfl, .inr (SqT.of upd_same), rfl, rfl, ?_⟩
    rcases hi with rfl | rfl
    · exact q _ (Keep.new nt)
    · exact q _ (Keep.new nt)
abbrev sRPs : Stmt := topS 24
abbrev nRPs : List Str := ["thing", "low", "high", "least", "pair"]
theorem scRPs : FnScope nRPs ["thing", "low", "high"] (defScope sRPs) := ⟨rfl, rfl, rfl, by decide +kernel, rfl, by decide +kernel, by decide +kernel⟩
def spRPs : Sp := fun vs H Q _ => ∃ (v : V) (lo l : Int) (ks : List (Int × Int)), vs = [v, .int lo, .int l] ∧ Dt [] H v (.tuple (ks.map prD)) ∧ rising lo l ks ∧ Q (.bl true) H
theorem ok_rPs (h : Has K mg "are_rising_pairs" sRPs) (B : Blt mg) (CT : Can P w K mg base "is_tuple_of" ["thing", "many"] 1 spTupOf) (CW : Can P w K mg base "is_within" ["thing", "low", "high"] 2 spWithin) : Can P w K mg base "are_rising_pairs" ["thing", "low", "high"] 3 spRPs := by
  obtain ⟨f, fd, F, g⟩ := h
  refine ⟨f, fd, F.ok (k := 2) scRPs (fun vs H Q E h => ?_) (fun cdv A outer s H vs Q E hr h => ?_), g, F.kp, F.binds fun _ _ _ _ _ _ us hl => match us, hl with | [_, _, _], _ => rfl⟩
  · obtain ⟨v, lo0, l, ks, rfl, _⟩ := h
    rfl
  · obtain ⟨v, lo0, l, ks, rfl, hv, rk, q⟩ := h
    refine ⟨_, pss_cons (ps_if (pt_not (pt_val (pe_callB (call_isD kit_tup) (by rfl) B.isi boot_isinstance (pa_cons (pv 0) (pa_cons (pe_bltn (v := .ty "tuple") (by rfl) B.tuple_ boot_tuple rfl) pa_nil))))) (pss_one (ps_ret pe_bl)) pss_nil)
      (pss_cons (ps_set (i := 3) scRPs.nd rfl (by first | exact Or.inl rfl | exact Or.inr rfl) (pv 1))
      (pss_cons (ps_for PassesOwn.never rfl (pi_tup (pv 0)) (pg_name (i := 4) scRPs.nd rfl (by first | exact Or.inl rfl | exact Or.inr rfl))
      (pss_cons (ps_if (PW.pt (pw_or (pt_not (pt_val (pe_can CT (hr.mono (by decide)) (by rfl) (pa_cons (pv 4) (pa_cons pe_int pa_nil))))) (pw_or1 (pt_not (pt_val (pe_can CW (hr.mono (by decide)) (by rfl) (pa_cons (pe_ix ix_tup (pv 4) pe_int (fun _ _ => rfl)) (pa_cons (pv 3) (pa_cons (pv 2) pa_nil))))))))) (pss_one (ps_ret pe_bl)) pss_nil)
      (pss_one (ps_set (i := 3) scRPs.nd rfl (by first | exact Or.inl rfl | exact Or.inr rfl) (pe_op op_add (pe_ix ix_tup (pv 4) pe_int (fun _ _ => rfl)) pe_int)))))
      (pss_one (ps_ret pe_bl)))), ?_⟩
    have hv0 := hv
    obtain ⟨a, xs, rfl, _, ea, da⟩ := tup_at hv
    refine ⟨_, rfl, .ref a, _, [], rfl, hv0, _, rfl, iteF ?_⟩
    refine ⟨_, rfl, ?_⟩
    refine ⟨_, rfl, a, rfl, ⟨_, SqT.of ea⟩, for_tup (K := K) (a := a) (xs := xs) (fun i σ J => J = H ∧ ∃ (s4 : Option V) (lo : Int), σ = [some (.ref a), some (.int lo0), some (.int l), some (.int lo), s4] ∧ rising lo l (ks.drop i)) ⟨rfl, none, lo0, rfl, rk⟩ (fun i σ J _ z => ?_) (fun i x σ J hx z => ?_) (fun σ J z => ?_)⟩
    · rw [z.1]; exact SqT.of ea
    · obtain ⟨rfl, s4, lo, rfl, rz⟩ := z
      obtain ⟨d, hd, dx⟩ := da.getv i hx
      rw [List.getElem?_map] at hd
      obtain ⟨k, gk, rfl⟩ := Option.map_eq_some_iff.mp hd
      obtain ⟨b, rfl, eb⟩ := pr_at dx
      rw [drop_rest gk] at rz
      obtain ⟨r1, r2, r3⟩ := rz
      refine ⟨.ref b, rfl, .ref b, prD k, [], 2, rfl, dx, _, rfl, ?_⟩
      rw [show tupOf (prD k) 2 = true from rfl]
      dsimp only [Bool.not_true]
      refine iteF ?_
      refine ⟨.ref b, rfl, b, _, 0, .int k.1, rfl, rfl, SqT.of eb, atI_nat (j := 0) rfl, .int lo, rfl, .int l, rfl, .int k.1, .int k.1, [], lo, l, rfl, .int _, _, rfl, ?_⟩
      rw [within_yes r1 r2]
      dsimp only [Bool.not_true]
      refine iteF ?_
      refine ⟨.ref b, rfl, b, _, 0, .int k.1, rfl, rfl, SqT.of eb, atI_nat (j := 0) rfl, k.1, 1, rfl, rfl, rfl, _, _, rfl, r3⟩
    · obtain ⟨rfl, s4, lo, rfl, rz⟩ := z
      exact q
abbrev sAN : Stmt := topS 28
abbrev nAN : List Str := ["length", "thing", "pair"]
theorem scAN : FnScope nAN ["length", "thing"] (defScope sAN) := ⟨rfl, rfl, rfl, by decide +kernel, rfl, by decide +kernel, by decide +kernel⟩
def spAN : Sp := fun vs H Q _ => ∃ (v : V) (l : Int) (ks : List (Int × Int)), vs = [.int l, v] ∧ Dt [] H v (.tuple (ks.map prD)) ∧ rising 1 (l - 1) ks ∧ (∀ k ∈ ks, 1 ≤ k.2 ∧ k.2 ≤ 1000000) ∧ ks.length ≤ 900 ∧ ∀ H', Keep [] H H' → Q (.bl true) H'
theorem ok_aN (h : Has K mg "are_narrows" sAN) (B : Blt mg) (cWIDE : ∃ t, mg "WIDE" = some (.int 1000000 t)) (CR : Can P w K mg base "are_rising_pairs" ["thing", "low", "high"] 3 spRPs) (CW : Can P w K mg base "is_within" ["thing", "low", "high"] 2 spWithin) : Can P w K mg base "are_narrows" ["length", "thing"] 4 spAN := by
  obtain ⟨f, fd, F, g⟩ := h
  refine ⟨f, fd, F.ok (k := 3) scAN (fun vs H Q E h => ?_) (fun cdv A outer s H vs Q E hr h => ?_), g, F.kp, F.binds fun _ _ _ _ _ _ us hl => match us, hl with | [_, _], _ => rfl⟩
  · obtain ⟨v, l, ks, rfl, _⟩ := h
    rfl
  · obtain ⟨v, l, ks, rfl, hv, rk, sk, lk, q⟩ := h
    refine ⟨_, pss_cons (ps_if (pt_not (pt_val (pe_can CR (hr.mono (by decide)) (by rfl) (pa_cons (pv 1) (pa_cons pe_int (pa_cons (pe_op op_sub (pv 0) pe_int) pa_nil)))))) (pss_one (ps_ret pe_bl)) pss_nil)
      (pss_one (ps_ret (pe_callB (cr_all rfl) (by rfl) B.all_ (by decide +kernel) (pa_cons (pe_lc (own := [("pair", 2)]) (g := gName 2) (tt := tYes) rfl scAN.nd (pi_tup (pv 1)) (blkOk_by (N := nAN) (sc := defScope sAN) (by decide +kernel)) (fun _ _ _ _ _ => (pg_name (i := 2) scAN.nd rfl (by first | exact Or.inl rfl | exact Or.inr rfl))) (fun _ _ _ _ _ => pts_nil) (fun _ _ _ _ _ => (pe_can CW (hr.mono (by decide)) (by rfl) (pa_cons (pe_ix (ix_tupK (K := K) rfl) (pv 2) pe_int (fun _ _ => rfl)) (pa_cons pe_int (pa_cons (pe_glob (v := .int 1000000) rfl cWIDE.choose_spec ⟨_, rfl⟩) pa_nil)))))) pa_nil)))), ?_⟩
    refine ⟨v, rfl, .int l, rfl, l, 1, rfl, rfl, v, 1, l - 1, ks, rfl, hv, rk, _, rfl, iteF ?_⟩
    obtain ⟨b, ys, rfl, _, eb, db⟩ := tup_at hv
    have ly := db.len
    rw [List.length_map] at ly
    refine ⟨.ref b, rfl, b, rfl, ⟨_, SqT.of eb⟩, fun W nW => ?_⟩
    refine lc_tup (K := K) (a := b) (xs := ys) (fun i G => Keep [] H G ∧ G W = some (.lst ((List.replicate i true).map V.bl))) ⟨Keep.new nW, upd_same⟩ (fun i G _ z => SqT.of (z.1 b _ eb List.not_mem_nil)) (fun i x G hx z => ?_) (fun G z => ?_)
    · obtain ⟨d, hd, dx⟩ := db.getv i hx
      rw [List.getElem?_map] at hd
      obtain ⟨k, gk, rfl⟩ := Option.map_eq_some_iff.mp hd
      obtain ⟨c, rfl, ec⟩ := pr_at dx
      have hi : i < ks.length := (List.getElem?_eq_some_iff.mp gk).1
      have hs := sk k (List.mem_of_getElem? gk)
      refine ⟨rfl, .ref c, rfl, c, _, 1, .int k.2, rfl, rfl, SqT.of (z.1 c _ ec List.not_mem_nil), atI_nat (j := 1) rfl, .int k.2, .int k.2, [], 1, _, rfl, .int _, _, z.2, by rw [List.length_map, List.length_replicate]; exact small1000 (by omega), z.1.upd nW, ?_⟩
      rw [upd_same, within_yes hs.1 hs.2, List.replicate_succ', List.map_append]; rfl
    · refine ⟨W, List.replicate ys.length true, rfl, SqL.of z.2, ?_⟩
      have e1 : (List.replicate ys.length true).all id = true := by simp
      rw [e1]
      exact q G z.1
abbrev sAF : Stmt := topS 29
abbrev nAF : List Str := ["length", "thing", "pair"]
theorem scAF : FnScope nAF ["length", "thing"] (defScope sAF) := ⟨rfl, rfl, rfl, by decide +kernel, rfl, by decide +kernel, by decide +kernel⟩
def spAF : Sp := fun vs H Q _ => ∃ (v : V) (l : Int) (ks : List (Int × Int)), vs = [.int l, v] ∧ Dt [] H v (.tuple (ks.map prD)) ∧ rising 0 (l - 1) ks ∧ (∀ k ∈ ks, k.2 = 1 ∨ k.2 = -1) ∧ ks.length ≤ 900 ∧ ∀ H', Keep [] H H' → Q (.bl true) H'
theorem ok_aF (h : Has K mg "are_flaps" sAF) (B : Blt mg) (CR : Can P w K mg base "are_rising_pairs" ["thing", "low", "high"] 3 spRPs) (CF : Can P w K mg base "is_flap_way" ["thing"] 2 spFW) : Can P w K mg base "are_flaps" ["length", "thing"] 4 spAF := by
  obtain ⟨f, fd, F, g⟩ := h
  refine ⟨f, fd, F.ok (k := 3) scAF (fun vs H Q E h => ?_) (fun cdv A outer s H vs Q E hr h => ?_), g, F.kp, F.binds fun _ _ _ _ _ _ us hl => match us, hl with | [_, _], _ => rfl⟩
  · obtain ⟨v, l, ks, rfl, _⟩ := h
    rfl
  · obtain ⟨v, l, ks, rfl, hv, rk, sk, lk, q⟩ := h
    refine ⟨_, pss_cons (ps_if (pt_not (pt_val (pe_can CR (hr.mono (by decide)) (by rfl) (pa_cons (pv 1) (pa_cons pe_int (pa_cons (pe_op op_sub (pv 0) pe_int) pa_nil)))))) (pss_one (ps_ret pe_bl)) pss_nil)
      (pss_one (ps_ret (pe_callB (cr_all rfl) (by rfl) B.all_ (by decide +kernel) (pa_cons (pe_lc (own := [("pair", 2)]) (g := gName 2) (tt := tYes) rfl scAF.nd (pi_tup (pv 1)) (blkOk_by (N := nAF) (sc := defScope sAF) (by decide +kernel)) (fun _ _ _ _ _ => (pg_name (i := 2) scAF.nd rfl (by first | exact Or.inl rfl | exact Or.inr rfl))) (fun _ _ _ _ _ => pts_nil) (fun _ _ _ _ _ => (pe_can CF (hr.mono (by decide)) (by rfl) (pa_cons (pe_ix (ix_tupK (K := K) rfl) (pv 2) pe_int (fun _ _ => rfl)) pa_nil)))) pa_nil)))), ?_⟩
    refine ⟨v, rfl, .int l, rfl, l, 1, rfl, rfl, v, 0, l - 1, ks, rfl, hv, rk, _, rfl, iteF ?_⟩
    obtain ⟨b, ys, rfl, _, eb, db⟩ := tup_at hv
    have ly := db.len
    rw [List.length_map] at ly
    refine ⟨.ref b, rfl, b, rfl, ⟨_, SqT.of eb⟩, fun W nW => ?_⟩
    refine lc_tup (K := K) (a := b) (xs := ys) (fun i G => Keep [] H G ∧ G W = some (.lst ((List.replicate i true).map V.bl))) ⟨Keep.new nW, upd_same⟩ (fun i G _ z => SqT.of (z.1 b _ eb List.not_mem_nil)) (fun i x G hx z => ?_) (fun G z => ?_)
    · obtain ⟨d, hd, dx⟩ := db.getv i hx
      rw [List.getElem?_map] at hd
      obtain ⟨k, gk, rfl⟩ := Option.map_eq_some_iff.mp hd
      obtain ⟨c, rfl, ec⟩ := pr_at dx
      have hi : i < ks.length := (List.getElem?_eq_some_iff.mp gk).1
      have hs := sk k (List.mem_of_getElem? gk)
      refine ⟨rfl, .ref c, rfl, c, _, 1, .int k.2, rfl, rfl, SqT.of (z.1 c _ ec List.not_mem_nil), atI_nat (j := 1) rfl, k.2, rfl, hs, fun G1 k1 => ?_⟩
      refine ⟨_, k1 W _ z.2 List.not_mem_nil, by rw [List.length_map, List.length_replicate]; exact small1000 (by omega), (z.1.trans k1).upd nW, ?_⟩
      rw [upd_same, List.replicate_succ', List.map_append]; rfl
    · refine ⟨W, List.replicate ys.length true, rfl, SqL.of z.2, ?_⟩
      have e1 : (List.replicate ys.length true).all id = true := by simp
      rw [e1]
      exact q G z.1
abbrev sIP : Stmt := topS 27
abbrev nIP : List Str := ["rooms", "thing", "one", "other", "length", "narrows", "flaps"]
theorem scIP : FnScope nIP ["rooms", "thing"] (defScope sIP) := ⟨rfl, rfl, rfl, by decide +kernel, rfl, by decide +kernel, by decide +kernel⟩
def spIP : Sp := fun vs H Q _ => ∃ (v : V) (n : Int) (p : Pi), vs = [.int n, v] ∧ Dt [] H v p.dat ∧ p.ok n ∧ ∀ H', Keep [] H H' → Q (.bl true) H'
theorem ok_iP (h : Has K mg "is_pipe" sIP) (cLONG : ∃ t, mg "LONG" = some (.int 1000000000000 t)) (CT : Can P w K mg base "is_tuple_of" ["thing", "many"] 1 spTupOf) (CW : Can P w K mg base "is_within" ["thing", "low", "high"] 2 spWithin) (CA : Can P w K mg base "are_narrows" ["length", "thing"] 4 spAN) (CF : Can P w K mg base "are_flaps" ["length", "thing"] 4 spAF) : Can P w K mg base "is_pipe" ["rooms", "thing"] 5 spIP := by
  obtain ⟨f, fd, F, g⟩ := h
  refine ⟨f, fd, F.ok (k := 4) scIP (fun vs H Q E h => ?_) (fun cdv A outer s H vs Q E hr h => ?_), g, F.kp, F.binds fun _ _ _ _ _ _ us hl => match us, hl with | [_, _], _ => rfl⟩
  · obtain ⟨v, n, p, rfl, _⟩ := h
    rfl
  · obtain ⟨v, n, p, rfl, hv, ok, q⟩ := h
    refine ⟨_, pss_cons (ps_if (pt_not (pt_val (pe_can CT (hr.mono (by decide)) (by rfl) (pa_cons (pv 1) (pa_cons pe_int pa_nil))))) (pss_one (ps_ret pe_bl)) pss_nil)
      (pss_cons (ps_asg (pv 1) (pg_tup (by rfl) (pgs_cons (pg_name (i := 2) scIP.nd rfl (by first | exact Or.inl rfl | exact Or.inr rfl)) (pgs_cons (pg_name (i := 3) scIP.nd rfl (by first | exact Or.inl rfl | exact Or.inr rfl)) (pgs_cons (pg_name (i := 4) scIP.nd rfl (by first | exact Or.inl rfl | exact Or.inr rfl)) (pgs_cons (pg_name (i := 5) scIP.nd rfl (by first | exact Or.inl rfl | exact Or.inr rfl)) (pgs_cons (pg_name (i := 6) scIP.nd rfl (by first | exact Or.inl rfl | exact Or.inr rfl)) pgs_nil)))))))
      (pss_cons (ps_if (PW.pt (pw_or (pt_not (pt_val (pe_can CW (hr.mono (by decide)) (by rfl) (pa_cons (pv 3) (pa_cons pe_int (pa_cons (pe_op op_sub (pv 0) pe_int) pa_nil)))))) (pw_or1 (pt_not (pt_val (pe_can CW (hr.mono (by decide)) (by rfl) (pa_cons (pv 2) (pa_cons pe_int (pa_cons (pe_op op_sub (pv 3) pe_int) pa_nil))))))))) (pss_one (ps_ret pe_bl)) pss_nil)
      (pss_cons (ps_if (pt_not (pt_val (pe_can CW (hr.mono (by decide)) (by rfl) (pa_cons (pv 4) (pa_cons pe_int (pa_cons (pe_glob (v := .int 1000000000000) rfl cLONG.choose_spec ⟨_, rfl⟩) pa_nil)))))) (pss_one (ps_ret pe_bl)) pss_nil)
      (pss_one (ps_ret (pe_and (pe_can CA (hr.mono (by decide)) (by rfl) (pa_cons (pv 4) (pa_cons (pv 5) pa_nil))) (pe_one (pe_can CF (hr.mono (by decide)) (by rfl) (pa_cons (pv 4) (pa_cons (pv 6) pa_nil)))))))))), ?_⟩
    have hv0 := hv
    obtain ⟨a, v3, v4, rfl, ea, d3, d4⟩ := pipe_is hv
    have x0 := ok.x0
    have y1 := ok.y1
    have xy := ok.xy
    have ft := ok.fit
    refine ⟨.ref a, rfl, .ref a, p.dat, [], 5, rfl, hv0, _, rfl, ?_⟩
    rw [show tupOf p.dat 5 = true from rfl]
    dsimp only [Bool.not_true]
    refine iteF ?_
    refine ⟨.ref a, rfl, a, _, rfl, SqT.of ea, rfl, _, _, rfl, _, _, rfl, _, _, rfl, _, _, rfl, _, [], rfl, rfl, ?_⟩
    refine ⟨.int p.y, rfl, .int n, rfl, n, 1, rfl, rfl, .int p.y, .int p.y, [], 1, _, rfl, .int _, _, rfl, ?_⟩
    rw [within_yes (show 1 ≤ p.y by omega) y1]
    dsimp only [Bool.not_true]
    refine iteF ?_
    refine ⟨.int p.x, rfl, .int p.y, rfl, p.y, 1, rfl, rfl, .int p.x, .int p.x, [], 0, _, rfl, .int _, _, rfl, ?_⟩
    rw [within_yes x0 (show p.x ≤ p.y - 1 by omega)]
    dsimp only [Bool.not_true]
    refine iteF ?_
    refine ⟨.int p.l, rfl, .int p.l, .int p.l, [], 1, _, rfl, .int _, _, rfl, ?_⟩
    rw [within_yes ft.l1 ft.l2]
    dsimp only [Bool.not_true]
    refine iteF ?_
    have nle := ft.nle
    have fle := ft.fle
    refine ⟨.int p.l, rfl, v3, rfl, v3, p.l, p.na, rfl, d3, rise_fit ft.nup (fun k m => ⟨(ft.nin k m).1, (ft.nin k m).2.1⟩), (fun k m => (ft.nin k m).2.2), by omega, fun H1 k1 => ⟨_, rfl, iteT ?_⟩⟩
    exact ⟨.int p.l, rfl, v4, rfl, v4, p.l, p.fl, rfl, d4.keep k1, rise_fit ft.fup (fun k m => ⟨(ft.fin k m).1, (ft.fin k m).2.1⟩), (fun k m => (ft.fin k m).2.2), by omega, fun H2 k2 => q H2 (k1.trans k2)⟩
abbrev sJA : Stmt := topS 31
abbrev nJA : List Str := ["rooms", "pipes", "groups", "pipe", "kept", "gone", "group"]
theorem scJA : FnScope nJA ["rooms", "pipes"] (defScope sJA) := ⟨rfl, rfl, rfl, by decide +kernel, rfl, by decide +kernel, by decide +kernel⟩
def spJA : Sp := fun vs H Q _ => ∃ (v : V) (n : Int) (ps : List Pi), vs = [.int n, v] ∧ Dt [] H v (.tuple (ps.map Pi.dat)) ∧ okH n ps ∧ ∀ H', Keep [] H H' → Q (.bl true) H'
theorem ok_jA (h : Has K mg "joins_all" sJA) (B : Blt mg) : Can P w K mg base "joins_all" ["rooms", "pipes"] 1 spJA := by
  obtain ⟨f, fd, F, g⟩ := h
  refine ⟨f, fd, F.ok (k := 0) scJA (fun vs H Q E h => ?_) (fun cdv A outer s H vs Q E hr h => ?_), g, F.kp, F.binds fun _ _ _ _ _ _ us hl => match us, hl with | [_, _], _ => rfl⟩
  · obtain ⟨v, n, ps, rfl, _⟩ := h
    rfl
  · obtain ⟨v, n, ps, rfl, hv, ok, q⟩ := h
    refine ⟨_, pss_cons (ps_set (i := 2) scJA.nd rfl (by first | exact Or.inl rfl | exact Or.inr rfl) (pe_listRg rfl (by rfl) B.list_ (prg_1 (by rfl) B.range_ (pv 0))))
      (pss_cons (ps_for PassesOwn.never rfl (pi_tup (pv 1)) (pg_name (i := 3) scJA.nd rfl (by first | exact Or.inl rfl | exact Or.inr rfl))
      (pss_cons (ps_set (i := 4) scJA.nd rfl (by first | exact Or.inl rfl | exact Or.inr rfl) (pe_ix ix_list (pv 2) (pe_ix ix_tup (pv 3) pe_int (fun _ _ => rfl)) (fun _ _ => rfl)))
      (pss_cons (ps_set (i := 5) scJA.nd rfl (by first | exact Or.inl rfl | exact Or.inr rfl) (pe_ix ix_list (pv 2) (pe_ix ix_tup (pv 3) pe_int (fun _ _ => rfl)) (fun _ _ => rfl)))
      (pss_cons (ps_if (pt_cmpR op_eq (pv 4) (pv 5) (nomark _)) (pss_one (ps_ret pe_bl)) pss_nil)
      (pss_one (ps_setLc (i := 2) (own := [("group", 6)]) (g := gName 6) (tt := tYes) rfl scJA.nd rfl rfl (sw_true rfl rfl rfl (by decide +kernel)) (pi_list (pv 2)) (blkOk_by (N := nJA) (sc := defScope sJA) (by decide +kernel)) (fun _ _ _ _ _ => (pg_name (i := 6) scJA.nd rfl (by first | exact Or.inl rfl | exact Or.inr rfl))) (fun _ _ _ _ _ => pts_nil) (fun _ _ _ _ _ => (pe_ifExp (pt_cmpR op_eq (pv 6) (pv 5) (nomark _)) (pv 4) (pv 6)))))))))
      (pss_one (ps_ret pe_bl))), ?_⟩
    have hj0 := ok.join
    have n1 := ok.n1
    have n16 := ok.n16
    obtain ⟨a, xs, rfl, _, ea, hs⟩ := tup_at hv
    refine ⟨.int n, rfl, n, rfl, RgOk.of_le (by decide) (by omega) (by decide) (by omega), fun g0 ng0 => ?_⟩
    rw [rg_start (by omega)]
    have k0 : Keep [] H (upd H g0 (.lst ((Rw.start n.toNat).map V.int))) := Keep.new ng0
    refine ⟨.ref a, rfl, a, rfl, ⟨_, SqT.of (k0.same a _ ea)⟩, for_tup (K := K) (a := a) (xs := xs)
      (fun i σ G => ∃ (gs : List Int) (ga : Addr) (s3 s4 s5 : Option V), σ = [some (.int n), some (.ref a), some (.ref ga), s3, s4, s5, none] ∧ Keep [] H G ∧ G ga = some (.lst (gs.map V.int)) ∧ Gs n.toNat gs ∧ joins gs ((edges ps).drop i) = true)
      ⟨_, g0, none, none, none, rfl, k0, upd_same, Gs.start _, hj0⟩ (fun i σ G _ p => ?_) (fun i x σ G hx p => ?_) (fun σ G p => ?_)⟩
    · obtain ⟨_, _, _, _, _, _, kG, _⟩ := p
      exact SqT.of (kG.same a _ ea)
    · obtain ⟨gs, ga, s3, s4, s5, rfl, kG, eg, hgs, hj⟩ := p
      obtain ⟨d, hd, dp⟩ := (hs.keep (Keep.of kG)).getv i hx
      rw [List.getElem?_map] at hd
      obtain ⟨p, hp, rfl⟩ := Option.map_eq_some_iff.mp hd
      have o := ok.ok p (List.mem_of_getElem? hp)
      have b1 := o.x0
      have b2 := o.x1
      have b3 := o.y0
      have b4 := o.y1
      have ed : (edges ps).drop i = (p.x.toNat, p.y.toNat) :: (edges ps).drop (i + 1) := by
        have hm : (edges ps)[i]? = some (p.x.toNat, p.y.toNat) := by unfold edges; rw [List.getElem?_map, hp]; rfl
        have hi' : i < (edges ps).length := (List.getElem?_eq_some_iff.mp hm).1
        rw [← List.getElem_cons_drop hi', (List.getElem?_eq_some_iff.mp hm).2]
      rw [ed] at hj
      obtain ⟨pa, v3, v4, rfl, eb, _, _⟩ := pipe_is dp
      have gl := hgs.len
      refine ⟨.ref ga, rfl, .ref pa, rfl, pa, _, 0, .int p.x, rfl, rfl, SqT.of eb, atI_nat (j := 0) rfl, ga, _, p.x, _, rfl, rfl, SqL.of eg, at_grp b1 (by omega), ?_⟩
      refine ⟨.ref ga, rfl, .ref pa, rfl, pa, _, 1, .int p.y, rfl, rfl, SqT.of eb, atI_nat (j := 1) rfl, ga, _, p.y, _, rfl, rfl, SqL.of eg, at_grp (by omega) (by omega), ?_⟩
      have hj' : (if grp gs p.x.toNat = grp gs p.y.toNat then false else joins (Rw.step gs (p.x.toNat, p.y.toNat)) ((edges ps).drop (i + 1))) = true := hj
      have t' : grp gs p.x.toNat ≠ grp gs p.y.toNat := fun z => by rw [if_pos z] at hj'; cases hj'
      rw [if_neg t'] at hj'
      refine ⟨_, rfl, _, rfl, rfl, _, rfl, ?_⟩
      rw [decide_eq_false (show ¬ V.int (grp gs p.x.toNat) = V.int (grp gs p.y.toNat) from fun z => t' (V.int.inj z))]
      refine iteF ?_
      refine ⟨.ref ga, rfl, ga, rfl, ⟨_, SqL.of eg⟩, fun W nW => ?_⟩
      refine lc_list (K := K) (a := ga) (xs := gs.map V.int) (fun j J => Keep [] G J ∧ J W = some (.lst (((gs.take j).map fun v => if v = grp gs p.y.toNat then grp gs p.x.toNat else v).map V.int)))
        ⟨Keep.new nW, upd_same⟩ (fun j J _ p => SqL.of (p.1.same ga _ eg)) (fun j z J hz y => ?_) (fun J y => ?_)
      · obtain ⟨kJ, eJ⟩ := y
        rw [List.getElem?_map] at hz
        obtain ⟨m, hn, rfl⟩ := Option.map_eq_some_iff.mp hz
        have hj2 : j < gs.length := (List.getElem?_eq_some_iff.mp hn).1
        refine ⟨rfl, .int m, rfl, _, rfl, rfl, _, rfl, ?_⟩
        have fin : ∀ (y : Int), y = (if m = grp gs p.y.toNat then grp gs p.x.toNat else m) → ∃ acc, J W = some (.lst acc) ∧ acc.length < sizeLine ∧ Keep [] G (upd J W (.lst (acc ++ [.int y]))) ∧ upd J W (.lst (acc ++ [.int y])) W = some (.lst (((gs.take (j + 1)).map fun v => if v = grp gs p.y.toNat then grp gs p.x.toNat else v).map V.int)) := fun y hy => by
          refine ⟨_, eJ, by rw [List.length_map, List.length_map, List.length_take]; exact small1000 (by omega), kJ.upd nW, ?_⟩
          rw [upd_same, List.take_add_one, hn, List.map_append, List.map_append, hy]; rfl
        refine ite2 (fun c => ?_) (fun c => ?_)
        · exact ⟨_, rfl, fin _ (by rw [if_pos (V.int.inj (of_decide_eq_true c))])⟩
        · exact ⟨_, rfl, fin _ (by rw [if_neg (fun z => c (decide_eq_true (by rw [z])))])⟩
      · obtain ⟨kJ, eJ⟩ := y
        rw [List.length_map, List.take_of_length_le (Nat.le_refl _)] at eJ
        exact ⟨Rw.step gs (p.x.toNat, p.y.toNat), W, _, _, _, rfl, kG.trans kJ, eJ, hgs.step (by show p.x.toNat < n.toNat; omega) (by show p.y.toNat < n.toNat; omega), hj'⟩
    · obtain ⟨gs, ga, s3, s4, s5, rfl, kG, eg, hgs, hj⟩ := p
      exact q G kG
abbrev sHF : Stmt := topS 32
abbrev nHF : List Str := ["pipes", "pipe", "narrows", "flaps"]
theorem scHF : FnScope nHF ["pipes"] (defScope sHF) := ⟨rfl, rfl, rfl, by decide +kernel, rfl, by decide +kernel, by decide +kernel⟩
def spHF : Sp := fun vs H Q _ => ∃ (v : V) (n : Int) (ps : List Pi), vs = [v] ∧ Dt [] H v (.tuple (ps.map Pi.dat)) ∧ okH n ps ∧ ∀ H', Keep [] H H' → Q (.bl true) H'
theorem ok_hF (h : Has K mg "holds_few" sHF) (B : Blt mg) (cNARROWS : ∃ t, mg "NARROWS" = some (.int 12 t)) (cFLAPS : ∃ t, mg "FLAPS" = some (.int 6 t)) : Can P w K mg base "holds_few" ["pipes"] 1 spHF := by
  obtain ⟨f, fd, F, g⟩ := h
  refine ⟨f, fd, F.ok (k := 0) scHF (fun vs H Q E h => ?_) (fun cdv A outer s H vs Q E hr h => ?_), g, F.kp, F.binds fun _ _ _ _ _ _ us hl => match us, hl with | [_], _ => rfl⟩
  · obtain ⟨v, n, ps, rfl, _⟩ := h
    rfl
  · obtain ⟨v, n, ps, rfl, hv, ok, q⟩ := h
    refine ⟨_, pss_cons (ps_set (i := 2) scHF.nd rfl (by first | exact Or.inl rfl | exact Or.inr rfl) (pe_callB (cr_sum rfl) (by rfl) B.sum_ (by decide +kernel) (pa_cons (pe_lc (own := [("pipe", 1)]) (g := gName 1) (tt := tYes) rfl scHF.nd (pi_tup (pv 0)) (blkOk_by (N := nHF) (sc := defScope sHF) (by decide +kernel)) (fun _ _ _ _ _ => (pg_name (i := 1) scHF.nd rfl (by first | exact Or.inl rfl | exact Or.inr rfl))) (fun _ _ _ _ _ => pts_nil) (fun _ _ _ _ _ => (pe_callB (call_len_seqK (K := K) rfl) (by rfl) B.len_ PySem.boot_len (pa_cons (pe_ix (ix_tupK (K := K) rfl) (pv 1) pe_int (fun _ _ => rfl)) pa_nil)))) pa_nil)))
      (pss_cons (ps_set (i := 3) scHF.nd rfl (by first | exact Or.inl rfl | exact Or.inr rfl) (pe_callB (cr_sum rfl) (by rfl) B.sum_ (by decide +kernel) (pa_cons (pe_lc (own := [("pipe", 1)]) (g := gName 1) (tt := tYes) rfl scHF.nd (pi_tup (pv 0)) (blkOk_by (N := nHF) (sc := defScope sHF) (by decide +kernel)) (fun _ _ _ _ _ => (pg_name (i := 1) scHF.nd rfl (by first | exact Or.inl rfl | exact Or.inr rfl))) (fun _ _ _ _ _ => pts_nil) (fun _ _ _ _ _ => (pe_callB (call_len_seqK (K := K) rfl) (by rfl) B.len_ PySem.boot_len (pa_cons (pe_ix (ix_tupK (K := K) rfl) (pv 1) pe_int (fun _ _ => rfl)) pa_nil)))) pa_nil)))
      (pss_one (ps_ret (pe_and (pe_cmpR op_le (pv 2) (pe_glob (v := .int 12) rfl cNARROWS.choose_spec ⟨_, rfl⟩) (nomark _)) (pe_one (pe_cmpR op_le (pv 3) (pe_glob (v := .int 6) rfl cFLAPS.choose_spec ⟨_, rfl⟩) (nomark _))))))), ?_⟩
    obtain ⟨a, xs, rfl, _, ea, hs⟩ := tup_at hv
    have lx := hs.len
    rw [List.length_map] at lx
    have n16 := ok.n16
    have lps := ok.len
    refine ⟨.ref a, rfl, a, rfl, ⟨_, SqT.of ea⟩, fun W nW => ?_⟩
    refine lc_tup (K := K) (a := a) (xs := xs) (fun j J => Keep [] H J ∧ J W = some (.lst ((((ps.take j).map fun p => p.na.length).map fun (n : Nat) => (n : Int)).map V.int)))
      ⟨Keep.new nW, upd_same⟩ (fun j J _ p => SqT.of (p.1.same a _ ea)) (fun j x J hx y => ?_) (fun J y => ?_)
    · obtain ⟨kJ, eJ⟩ := y
      obtain ⟨d, hd, dp⟩ := (hs.keep (Keep.of kJ)).getv j hx
      rw [List.getElem?_map] at hd
      obtain ⟨p, hp, rfl⟩ := Option.map_eq_some_iff.mp hd
      have hi : j < ps.length := (List.getElem?_eq_some_iff.mp hp).1
      obtain ⟨pa, v3, v4, rfl, eb, d3, d4⟩ := pipe_is dp
      obtain ⟨c, zs, rfl, _, ec, dc⟩ := tup_at d3
      have lz := dc.len
      rw [List.length_map] at lz
      refine ⟨rfl, _, rfl, _, _, 3, _, rfl, rfl, SqT.of eb, atI_nat (j := 3) rfl, _, _, rfl, .inr (SqT.of ec), _, eJ, by rw [List.length_map, List.length_map, List.length_map, List.length_take]; exact small1000 (by omega), kJ.upd nW, ?_⟩
      rw [upd_same, List.take_add_one, hp, List.map_append, List.map_append, List.map_append, lz]; rfl
    · obtain ⟨kJ, eJ⟩ := y
      rw [lx, List.take_of_length_le (Nat.le_refl _)] at eJ
      refine ⟨W, _, rfl, SqL.of eJ, ?_⟩
      rw [sum_ints]
      refine ⟨.ref a, rfl, a, rfl, ⟨_, SqT.of (kJ.same a _ ea)⟩, fun W2 nW2 => ?_⟩
      refine lc_tup (K := K) (a := a) (xs := xs) (fun j L => Keep [] J L ∧ L W2 = some (.lst ((((ps.take j).map fun p => p.fl.length).map fun (n : Nat) => (n : Int)).map V.int)))
        ⟨Keep.new nW2, upd_same⟩ (fun j L _ p => SqT.of ((kJ.trans p.1).same a _ ea)) (fun j x L hx y => ?_) (fun L y => ?_)
      · obtain ⟨kL, eL⟩ := y
        obtain ⟨d, hd, dp⟩ := (hs.keep (Keep.of (kJ.trans kL))).getv j hx
        rw [List.getElem?_map] at hd
        obtain ⟨p, hp, rfl⟩ := Option.map_eq_some_iff.mp hd
        have hi : j < ps.length := (List.getElem?_eq_some_iff.mp hp).1
        obtain ⟨pa, v3, v4, rfl, eb, d3, d4⟩ := pipe_is dp
        obtain ⟨c, zs, rfl, _, ec, dc⟩ := tup_at d4
        have lz := dc.len
        rw [List.length_map] at lz
        refine ⟨rfl, _, rfl, _, _, 4, _, rfl, rfl, SqT.of eb, atI_nat (j := 4) rfl, _, _, rfl, .inr (SqT.of ec), _, eL, by rw [List.length_map, List.length_map, List.length_map, List.length_take]; exact small1000 (by omega), kL.upd nW2, ?_⟩
        rw [upd_same, List.take_add_one, hp, List.map_append, List.map_append, List.map_append, lz]; rfl
      · obtain ⟨kL, eL⟩ := y
        rw [lx, List.take_of_length_le (Nat.le_refl _)] at eL
        refine ⟨W2, _, rfl, SqL.of eL, ?_⟩
        rw [sum_ints]
        have a1 := ok.na
        have a2 := ok.fl
        refine ⟨_, rfl, _, 12, rfl, rfl, _, rfl, ?_⟩
        rw [decide_eq_true (show (((ps.map fun p => p.na.length).sum : Nat) : Int) ≤ 12 by omega)]
        refine iteT ?_
        refine ⟨_, rfl, _, 6, rfl, rfl, ?_⟩
        show Q (.bl (decide ((((ps.map fun p => p.fl.length).sum : Nat) : Int) ≤ 6))) L
        rw [decide_eq_true (show (((ps.map fun p => p.fl.length).sum : Nat) : Int) ≤ 6 by omega)]
        exact q L (kJ.trans kL)
abbrev sIH : Stmt := topS 26
abbrev nIH : List Str := ["thing", "rooms", "pipes", "pipe"]
theorem scIH : FnScope nIH ["thing"] (defScope sIH) := ⟨rfl, rfl, rfl, by decide +kernel, rfl, by decide +kernel, by decide +kernel⟩
def spIH : Sp := fun vs H Q _ => ∃ (v : V) (n : Int) (ps : List Pi), vs = [v] ∧ Dt [] H v (houseD n (ps.map Pi.dat)) ∧ okH n ps ∧ ∀ H', Keep [] H H' → Q (.bl true) H'
theorem ok_iH (h : Has K mg "is_house" sIH) (cROOMS : ∃ t, mg "ROOMS" = some (.int 16 t)) (CT : Can P w K mg base "is_tuple_of" ["thing", "many"] 1 spTupOf) (CW : Can P w K mg base "is_within" ["thing", "low", "high"] 2 spWithin) (CI : Can P w K mg base "is_pipe" ["rooms", "thing"] 5 spIP) (CJ : Can P w K mg base "joins_all" ["rooms", "pipes"] 1 spJA) (CF : Can P w K mg base "holds_few" ["pipes"] 1 spHF) : Can P w K mg base "is_house" ["thing"] 6 spIH := by
  obtain ⟨f, fd, F, g⟩ := h
  refine ⟨f, fd, F.ok (k := 5) scIH (fun vs H Q E h => ?_) (fun cdv A outer s H vs Q E hr h => ?_), g, F.kp, F.binds fun _ _ _ _ _ _ us hl => match us, hl with | [_], _ => rfl⟩
  · obtain ⟨v, n, ps, rfl, _⟩ := h
    rfl
  · obtain ⟨v, n, ps, rfl, hv, ok, q⟩ := h
    refine ⟨_, pss_cons (ps_if (pt_not (pt_val (pe_can CT (hr.mono (by decide)) (by rfl) (pa_cons (pv 0) (pa_cons pe_int pa_nil))))) (pss_one (ps_ret pe_bl)) pss_nil)
      (pss_cons (ps_asg (pv 0) (pg_tup (by rfl) (pgs_cons (pg_name (i := 1) scIH.nd rfl (by first | exact Or.inl rfl | exact Or.inr rfl)) (pgs_cons (pg_name (i := 2) scIH.nd rfl (by first | exact Or.inl rfl | exact Or.inr rfl)) pgs_nil))))
      (pss_cons (ps_if (PW.pt (pw_or (pt_not (pt_val (pe_can CW (hr.mono (by decide)) (by rfl) (pa_cons (pv 1) (pa_cons pe_int (pa_cons (pe_glob (v := .int 16) rfl cROOMS.choose_spec ⟨_, rfl⟩) pa_nil)))))) (pw_or1 (pt_not (pt_val (pe_can CT (hr.mono (by decide)) (by rfl) (pa_cons (pv 2) (pa_cons (pe_op op_sub (pv 1) pe_int) pa_nil)))))))) (pss_one (ps_ret pe_bl)) pss_nil)
      (pss_cons (ps_for PassesOwn.never rfl (pi_tup (pv 2)) (pg_name (i := 3) scIH.nd rfl (by first | exact Or.inl rfl | exact Or.inr rfl))
      (pss_one (ps_if (pt_not (pt_val (pe_can CI (hr.mono (by decide)) (by rfl) (pa_cons (pv 1) (pa_cons (pv 3) pa_nil))))) (pss_one (ps_ret pe_bl)) pss_nil)))
      (pss_one (ps_ret (pe_and (pe_can CJ (hr.mono (by decide)) (by rfl) (pa_cons (pv 1) (pa_cons (pv 2) pa_nil))) (pe_one (pe_can CF (hr.mono (by decide)) (by rfl) (pa_cons (pv 2) pa_nil))))))))), ?_⟩
    have hv0 := hv
    obtain ⟨a, xs, rfl, _, ea, da⟩ := tup_at hv
    obtain ⟨w', rfl, dw⟩ : ∃ w', xs = [.int n, w'] ∧ Dt [] H w' (.tuple (ps.map Pi.dat)) := by
      cases da with
      | cons d1 da => cases d1; cases da with
        | cons d2 da => cases da; exact ⟨_, rfl, d2⟩
    have n1 := ok.n1
    have n16 := ok.n16
    have lps := ok.len
    refine ⟨.ref a, rfl, .ref a, houseD n (ps.map Pi.dat), [], 2, rfl, hv0, _, rfl, ?_⟩
    rw [show tupOf (houseD n (ps.map Pi.dat)) 2 = true from rfl]
    dsimp only [Bool.not_true]
    refine iteF ?_
    refine ⟨.ref a, rfl, a, _, rfl, SqT.of ea, rfl, _, _, rfl, _, [], rfl, rfl, ?_⟩
    refine ⟨.int n, rfl, .int n, .int n, [], 1, _, rfl, .int _, _, rfl, ?_⟩
    rw [within_yes n1 n16]
    dsimp only [Bool.not_true]
    refine iteF ?_
    refine ⟨w', rfl, .int n, rfl, n, 1, rfl, rfl, w', _, [], n - 1, rfl, dw, _, rfl, ?_⟩
    rw [show tupOf (.tuple (ps.map Pi.dat)) (n - 1) = true from decide_eq_true (by rw [List.length_map]; omega)]
    dsimp only [Bool.not_true]
    refine iteF ?_
    have dw0 := dw
    obtain ⟨b, ys, rfl, _, eb, db⟩ := tup_at dw
    refine ⟨_, rfl, b, rfl, ⟨_, SqT.of eb⟩, for_tup (K := K) (a := b) (xs := ys) (fun i σ J => Keep [] H J ∧ ∃ (s3 : Option V), σ = [some (.ref a), some (.int n), some (.ref b), s3]) ⟨Keep.refl _ _, none, rfl⟩ (fun i σ J _ z => SqT.of (z.1 b _ eb List.not_mem_nil)) (fun i x σ J hx z => ?_) (fun σ J z => ?_)⟩
    · obtain ⟨kJ, s3, rfl⟩ := z
      obtain ⟨d, hd, dp⟩ := db.getv i hx
      rw [List.getElem?_map] at hd
      obtain ⟨p, hp, rfl⟩ := Option.map_eq_some_iff.mp hd
      refine ⟨.int n, rfl, x, rfl, x, n, p, rfl, dp.keep kJ, ok.ok p (List.mem_of_getElem? hp), fun J1 k1 => ⟨_, rfl, iteF ?_⟩⟩
      exact ⟨kJ.trans k1, _, rfl⟩
    · obtain ⟨kJ, s3, rfl⟩ := z
      refine ⟨.int n, rfl, .ref b, rfl, .ref b, n, ps, rfl, dw0.keep kJ, ok, fun J1 k1 => ⟨_, rfl, iteT ?_⟩⟩
      exact ⟨.ref b, rfl, .ref b, n, ps, rfl, dw0.keep (kJ.trans k1), ok, fun J2 k2 => q J2 (kJ.trans (k1.trans k2))⟩
end
end Rw

namespace Rw
open PySem PySem.Spec PyProof.Rows L2
/-! ### same, of the same data twice: numbers, truths, texts, tuples and lists of these -/
def FI (W : Addr) (H : Hp) (ok : Nat → Bool) (i : Nat) (J : Hp) : Prop := Keep [] H J ∧ ∃ ws, J W = some (.lst ws) ∧ ws.length ≤ i ∧ ws.isEmpty = (List.range i).all ok
theorem FI.start {W : Addr} {H : Hp} {ok : Nat → Bool} (n : H W = none) : FI W H ok 0 (upd H W (.lst [])) := ⟨Keep.new n, [], upd_same, Nat.le_refl _, rfl⟩
theorem FI.skip {W : Addr} {H J : Hp} {ok : Nat → Bool} {i : Nat} (h : FI W H ok i J) (o : ok i = true) : FI W H ok (i + 1) J := by
  obtain ⟨k, ws, e, l, z⟩ := h
  refine ⟨k, ws, e, by omega, ?_⟩
  rw [List.range_succ, List.all_append, z, List.all_cons, o]; simp
theorem FI.put {W : Addr} {H J J2 : Hp} {ok : Nat → Bool} {i : Nat} {x : V} (h : FI W H ok i J) (k2 : Keep [] J J2) (n : H W = none) (hi : i ≤ 100000) (o : ok i = false) : ∃ acc, J2 W = some (.lst acc) ∧ acc.length < sizeLine ∧ FI W H ok (i + 1) (upd J2 W (.lst (acc ++ [x]))) := by
  obtain ⟨k, ws, e, l, z⟩ := h
  refine ⟨ws, k2.same W _ e, by rw [sizeLine_eq]; omega, (k.trans k2).upd n, ws ++ [x], upd_same, by rw [List.length_append, List.length_singleton]; omega, ?_⟩
  rw [List.range_succ, List.all_append, List.all_cons, o]
  cases ws <;> simp
theorem FI.go {W : Addr} {H J J2 : Hp} {ok : Nat → Bool} {i : Nat} (h : FI W H ok i J) (k2 : Keep [] J J2) : FI W H ok i J2 := by
  obtain ⟨k, ws, e, l, z⟩ := h
  exact ⟨k.trans k2, ws, k2.same W _ e, l, z⟩
theorem kit_lst_lt {K : PySem.W.Frag} : PySem.W.kitAny K (.type "list") [.type "list", .type "tuple"] = some true :=
  kitAny_cons (kit_ty (r := true) (by decide +kernel)) (fun e => by cases e) (fun _ => rfl)
theorem kit_bool_lt {K : PySem.W.Frag} : PySem.W.kitAny K (.type "bool") [.type "list", .type "tuple"] = some false :=
  kitAny_cons (kit_ty (r := false) (by decide +kernel)) (fun _ => kitAny_cons (kit_ty (r := false) (by decide +kernel)) (fun _ => rfl) (fun e => by cases e)) (fun e => by cases e)
theorem kit_str_lt {K : PySem.W.Frag} : PySem.W.kitAny K (.type "str") [.type "list", .type "tuple"] = some false :=
  kitAny_cons (kit_ty (r := false) (by decide +kernel)) (fun _ => kitAny_cons (kit_ty (r := false) (by decide +kernel)) (fun _ => rfl) (fun e => by cases e)) (fun e => by cases e)
inductive IS : Nat → PyData → Prop
  | int (m : Nat) (i : Int) : IS m (.int i)
  | bool (m : Nat) (b : Bool) : IS m (.bool b)
  | str (m : Nat) (x : Str) : IS m (.str x)
  | tup {m : Nat} {ds : List PyData} : ds.length ≤ 1000 → (∀ d ∈ ds, IS m d) → IS (m + 1) (.tuple ds)
  | lst {m : Nat} {ds : List PyData} : ds.length ≤ 1000 → (∀ d ∈ ds, IS m d) → IS (m + 1) (.list ds)
def leafS : PyData → Bool
  | .int _ => true
  | .bool _ => true
  | .str _ => true
  | _ => false
section
variable {P : Program} {w : World} {K : PySem.W.Frag} {mg : Str → Option Value} {base : Heap}
theorem same_leaf {f : Addr} {fd : FuncData} (F : Fun K "_law_same" "_law_same" sSame f fd) (B : Blt mg) {k : Nat} {cdv : Value} {A : Around} {outer : List Env} {s : Shared} {H : Hp} {Q : VK} {E : XK} {v u : V} {d : PyData} (hr : Room k (A.deeper (envOfC "_law_same" (defScope sSame) s.heap.objs.size f cdv))) (hv : Dt [] H v d) (hu : Dt [] H u d) (lf : leafS d = true) (q : ∀ H', Keep [] H H' → Q (.bl true) H') :
    ∃ t, PSs (cxOf CX0 P w K mg base nSame "_law_same" (defScope sSame) f cdv A outer s H E).nox (defBody sSame) t ∧ t { nx := fun _ H' => Q .non H', rt := Q } (L2.start nSame [v, u]) H := by
  refine ⟨_, pss_cons (ps_if (pt_val (pe_callB call_isiT (by rfl) B.isi boot_isinstance (pa_cons (pv 1) (pa_cons (pe_tup (pa_cons (pe_bltn (v := .ty "list") (by rfl) B.list_ boot_list rfl) (pa_cons (pe_bltn (v := .ty "tuple") (by rfl) B.tuple_ boot_tuple rfl) pa_nil))) pa_nil)))) (pss_cons ps_never
      (pss_cons ps_never
      (pss_one ps_never))) pss_nil)
      (pss_cons (ps_if (pt_cmpR op_isN (pv 1) pe_non (nomark _)) (pss_one ps_never) pss_nil)
      (pss_cons (ps_if (pt_val (pe_callB (call_isD kit_str) (by rfl) B.isi boot_isinstance (pa_cons (pv 1) (pa_cons (pe_bltn (v := .ty "str") (by rfl) B.str_ boot_str rfl) pa_nil)))) (pss_one (ps_ret (pe_and (pe_callB (call_isD kit_str) (by rfl) B.isi boot_isinstance (pa_cons (pv 0) (pa_cons (pe_bltn (v := .ty "str") (by rfl) B.str_ boot_str rfl) pa_nil))) (pe_one (pe_cmpR op_eq (pv 0) (pv 1) (nomark _)))))) pss_nil)
      (pss_one (ps_ret (pe_and (pe_callB (call_isD kit_int) (by rfl) B.isi boot_isinstance (pa_cons (pv 0) (pa_cons (pe_bltn (v := .ty "int") (by rfl) B.int_ boot_int rfl) pa_nil))) (pe_and (pe_cmpR op_eq (pe_callB (call_isD kit_bool) (by rfl) B.isi boot_isinstance (pa_cons (pv 0) (pa_cons (pe_bltn (v := .ty "bool") (by rfl) B.bool_ boot_bool rfl) pa_nil))) (pe_callB (call_isD kit_bool) (by rfl) B.isi boot_isinstance (pa_cons (pv 1) (pa_cons (pe_bltn (v := .ty "bool") (by rfl) B.bool_ boot_bool rfl) pa_nil))) (nomark _)) (pe_one (pe_cmpR op_eq (pv 0) (pv 1) (nomark _))))))))), ?_⟩
  cases hv <;> first | (cases lf; done) | skip
  · rename_i i
    cases hu
    refine ⟨.bl i, rfl, show 2 ≤ sizeLine by decide, fun T nT => ⟨.bl i, T, _, .type "bool", [.type "list", .type "tuple"], false, rfl, upd_same, .cons (.ty _) (.cons (.ty _) .nil), .base (.bl i), kit_bool_lt, _, rfl, iteF ?_⟩⟩
    refine ⟨.bl i, rfl, rfl, _, rfl, ?_⟩
    rw [show decide (V.bl i = V.non) = false from decide_eq_false (fun e => by cases e)]
    refine iteF ⟨.bl i, rfl, .bl i, .bool i, [], rfl, .bl i, _, rfl, iteF ?_⟩
    refine ⟨.bl i, rfl, .bl i, .bool i, [], rfl, .bl i, _, rfl, iteT ?_⟩
    refine ⟨.bl i, rfl, .bl i, .bool i, [], rfl, .bl i, .bl i, rfl, .bl i, .bool i, [], rfl, .bl i, rfl, _, rfl, ?_⟩
    refine iteT ⟨.bl i, rfl, .bl i, rfl, rfl, ?_⟩
    rw [decide_eq_true (rfl : V.bl i = V.bl i)]
    exact q _ (Keep.new nT)
  · rename_i i
    cases hu
    refine ⟨.int i, rfl, show 2 ≤ sizeLine by decide, fun T nT => ⟨.int i, T, _, .type "int", [.type "list", .type "tuple"], false, rfl, upd_same, .cons (.ty _) (.cons (.ty _) .nil), .base (.int i), kit_int_lt, _, rfl, iteF ?_⟩⟩
    refine ⟨.int i, rfl, rfl, _, rfl, ?_⟩
    rw [show decide (V.int i = V.non) = false from decide_eq_false (fun e => by cases e)]
    refine iteF ⟨.int i, rfl, .int i, .int i, [], rfl, .int i, _, rfl, iteF ?_⟩
    refine ⟨.int i, rfl, .int i, .int i, [], rfl, .int i, _, rfl, iteT ?_⟩
    refine ⟨.int i, rfl, .int i, .int i, [], rfl, .int i, .int i, rfl, .int i, .int i, [], rfl, .int i, rfl, _, rfl, ?_⟩
    refine iteT ⟨.int i, rfl, .int i, rfl, rfl, ?_⟩
    rw [decide_eq_true (rfl : V.int i = V.int i)]
    exact q _ (Keep.new nT)
  · rename_i x
    cases hu
    refine ⟨.str x, rfl, show 2 ≤ sizeLine by decide, fun T nT => ⟨.str x, T, _, .type "str", [.type "list", .type "tuple"], false, rfl, upd_same, .cons (.ty _) (.cons (.ty _) .nil), .base (.str x), kit_str_lt, _, rfl, iteF ?_⟩⟩
    refine ⟨.str x, rfl, rfl, _, rfl, ?_⟩
    rw [show decide (V.str x = V.non) = false from decide_eq_false (fun e => by cases e)]
    refine iteF ⟨.str x, rfl, .str x, .str x, [], rfl, .str x, _, rfl, iteT ?_⟩
    refine ⟨.str x, rfl, .str x, .str x, [], rfl, .str x, _, rfl, iteT ?_⟩
    refine ⟨.str x, rfl, .str x, rfl, rfl, ?_⟩
    rw [decide_eq_true (rfl : V.str x = V.str x)]
    exact q _ (Keep.new nT)
def spSameS (m : Nat) : Sp := fun vs H Q _ => ∃ (v u : V) (d : PyData), vs = [v, u] ∧ Dt [] H v d ∧ Dt [] H u d ∧ IS m d ∧ ∀ H', Keep [] H H' → Q (.bl true) H'
theorem ok_sameS (h : Has K mg "_law_same" sSame) (B : Blt mg) : ∀ m, Can P w K mg base "_law_same" ["_law_found", "_law_due_here"] (m + 1) (spSameS m) := by
  intro m
  induction m with
  | zero =>
    obtain ⟨f, fd, F, g⟩ := h
    refine ⟨f, fd, F.ok (k := 0) scSame (fun vs H Q E h => ?_) (fun cdv A outer s H vs Q E hr h => ?_), g, F.kp, F.binds fun _ _ _ _ _ _ us hl => match us, hl with | [_, _], _ => rfl⟩
    · obtain ⟨v, u, d, rfl, _⟩ := h
      rfl
    · obtain ⟨v, u, d, rfl, hv, hu, ib, q⟩ := h
      exact same_leaf F B hr hv hu (by cases ib <;> rfl) q
  | succ m ih =>
    obtain ⟨f, fd, F, g⟩ := h
    refine ⟨f, fd, F.ok (k := m + 1) scSame (fun vs H Q E h => ?_) (fun cdv A outer s H vs Q E hr h => ?_), g, F.kp, F.binds fun _ _ _ _ _ _ us hl => match us, hl with | [_, _], _ => rfl⟩
    · obtain ⟨v, u, d, rfl, _⟩ := h
      rfl
    · obtain ⟨v, u, d, rfl, hv, hu, ib, q⟩ := h
      cases ib with
      | int _ i => exact same_leaf F B hr hv hu rfl q
      | bool _ i => exact same_leaf F B hr hv hu rfl q
      | str _ i => exact same_leaf F B hr hv hu rfl q
      | tup ln hd =>
        rename_i ds
        have C0 := ih
        refine ⟨_, pss_cons (ps_if (pt_val (pe_callB call_isiT (by rfl) B.isi boot_isinstance (pa_cons (pv 1) (pa_cons (pe_tup (pa_cons (pe_bltn (v := .ty "list") (by rfl) B.list_ boot_list rfl) (pa_cons (pe_bltn (v := .ty "tuple") (by rfl) B.tuple_ boot_tuple rfl) pa_nil))) pa_nil)))) (pss_cons (ps_if (PW.pt (pw_or (pt_cmpR op_ne (pe_callB (call_isD kit_lst) (by rfl) B.isi boot_isinstance (pa_cons (pv 0) (pa_cons (pe_bltn (v := .ty "list") (by rfl) B.list_ boot_list rfl) pa_nil))) (pe_callB (call_isD kit_lst) (by rfl) B.isi boot_isinstance (pa_cons (pv 1) (pa_cons (pe_bltn (v := .ty "list") (by rfl) B.list_ boot_list rfl) pa_nil))) (nomark _)) (pw_or1 (pt_cmpR op_ne (pe_callB (call_isD kit_tup) (by rfl) B.isi boot_isinstance (pa_cons (pv 0) (pa_cons (pe_bltn (v := .ty "tuple") (by rfl) B.tuple_ boot_tuple rfl) pa_nil))) (pe_callB (call_isD kit_tup) (by rfl) B.isi boot_isinstance (pa_cons (pv 1) (pa_cons (pe_bltn (v := .ty "tuple") (by rfl) B.tuple_ boot_tuple rfl) pa_nil))) (nomark _))))) (pss_one (ps_ret pe_bl)) pss_nil)
      (pss_cons (ps_if (pt_cmpR op_ne (pe_callB call_len_seq (by rfl) B.len_ PySem.boot_len (pa_cons (pv 0) pa_nil)) (pe_callB call_len_seq (by rfl) B.len_ PySem.boot_len (pa_cons (pv 1) pa_nil)) (nomark _)) (pss_one (ps_ret pe_bl)) pss_nil)
      (pss_one (ps_ret (pe_cmpR (op_eqNilL hr.units0) (pe_lc (own := [("_law_k", 2)]) (g := gName 2) rfl scSame.nd (pi_range1 (by rfl) B.range_ (pa_cons (pe_callB call_len_seq (by rfl) B.len_ PySem.boot_len (pa_cons (pv 1) pa_nil)) pa_nil)) (blkOk_by (N := nSame) (sc := defScope sSame) (by decide +kernel)) (fun _ _ _ _ _ => pg_name (i := 2) scSame.nd rfl (Or.inl rfl)) (fun _ _ _ _ _ => pts_one (pt_not (pt_val (pe_can C0 hr (by rfl) (pa_cons (pe_ix (ix_tupK (K := K) rfl) (pv 0) (pv 2) (fun _ _ => rfl)) (pa_cons (pe_ix (ix_tupK (K := K) rfl) (pv 1) (pv 2) (fun _ _ => rfl)) pa_nil)))))) (fun _ _ _ _ _ => (pv 2))) (pe_lst pa_nil) (nomark _)))))) pss_nil)
      (pss_cons ps_never
      (pss_cons ps_never
      (pss_one ps_never))), ?_⟩
        cases hv with
        | tup n1 ea da =>
          rename_i a xs
          cases hu with
          | tup n2 eb db =>
            rename_i b ys
            have la := da.len
            have lb := db.len
            refine ⟨.ref b, rfl, show 2 ≤ sizeLine by decide, fun T nT => ⟨.ref b, T, _, .type "tuple", [.type "list", .type "tuple"], true, rfl, upd_same, .cons (.ty _) (.cons (.ty _) .nil), .base (.tup (st nT eb)), kit_tup_lt, _, rfl, iteT ?_⟩⟩
            have kT : Keep [] H (upd H T (.tup [.ty "list", .ty "tuple"])) := Keep.new nT
            have ea' := kT a _ ea List.not_mem_nil
            have eb' := kT b _ eb List.not_mem_nil
            have da' := da.keep kT
            have db' := db.keep kT
            have A : Dt [] (upd H T (.tup [.ty "list", .ty "tuple"])) (.ref a) (.tuple ds) := .tup List.not_mem_nil ea' da'
            have Bb : Dt [] (upd H T (.tup [.ty "list", .ty "tuple"])) (.ref b) (.tuple ds) := .tup List.not_mem_nil eb' db'
            generalize upd H T (.tup [.ty "list", .ty "tuple"]) = G at ea' eb' kT da' db' A Bb
            refine ⟨.ref a, rfl, _, _, [], rfl, A, .ref b, rfl, _, _, [], rfl, Bb, rfl, _, rfl, iteF ?_⟩
            refine ⟨.ref a, rfl, _, _, [], rfl, A, .ref b, rfl, _, _, [], rfl, Bb, rfl, _, rfl, iteF ?_⟩
            refine ⟨.ref a, rfl, a, _, rfl, .inr (SqT.of ea'), .ref b, rfl, b, _, rfl, .inr (SqT.of eb'), rfl, _, rfl, ?_⟩
            rw [la, lb]
            refine iteNS rfl ?_
            refine ⟨.ref b, rfl, b, _, rfl, .inr (SqT.of eb'), _, rfl, by omega, by omega, fun W nW => ?_⟩
            refine lc_range (lo := 0) (n := ((ys.length : Int)).toNat) (FI W G fun k => true) (FI.start nW) (fun j J hj p => ?_) (fun J p => ?_)
            · have lj : j < ds.length := by omega
              have gd : ds[j]? = some ds[j] := List.getElem?_eq_getElem lj
              obtain ⟨va, gva, dva⟩ := da'.get j gd
              obtain ⟨vb, gvb, dvb⟩ := db'.get j gd
              have ea5 := p.1.same a _ ea'
              have eb5 := p.1.same b _ eb'
              refine ⟨rfl, .ref a, rfl, .int (0 + (j : Int)), rfl, a, _, 0 + (j : Int), va, rfl, rfl, SqT.of ea5, atI_of (by omega) (by rw [show (0 + (j : Int)).toNat = j by omega]; exact gva), .ref b, rfl, .int (0 + (j : Int)), rfl, b, _, 0 + (j : Int), vb, rfl, rfl, SqT.of eb5, atI_of (by omega) (by rw [show (0 + (j : Int)).toNat = j by omega]; exact gvb), va, vb, ds[j], rfl, dva.keep p.1, dvb.keep p.1, hd _ (List.getElem_mem lj), fun J2 k2 => ⟨_, rfl, iteF ?_⟩⟩
              exact (p.go k2).skip rfl
            · obtain ⟨k3, ws, ew, lw, zw⟩ := p
              refine ⟨show 0 ≤ sizeLine by decide, fun z nz => ?_⟩
              refine ⟨W, z, ws, rfl, rfl, SqL.of (st nz ew), SqL.of upd_same, ?_⟩
              have e : ws.isEmpty = true := by rw [zw]; exact List.all_eq_true.mpr fun _ _ => rfl
              have := q _ ((kT.trans k3).trans (Keep.new (o := .lst []) nz))
              rw [← e] at this
              exact this
      | lst ln hd =>
        rename_i ds
        have C0 := ih
        refine ⟨_, pss_cons (ps_if (pt_val (pe_callB call_isiT (by rfl) B.isi boot_isinstance (pa_cons (pv 1) (pa_cons (pe_tup (pa_cons (pe_bltn (v := .ty "list") (by rfl) B.list_ boot_list rfl) (pa_cons (pe_bltn (v := .ty "tuple") (by rfl) B.tuple_ boot_tuple rfl) pa_nil))) pa_nil)))) (pss_cons (ps_if (PW.pt (pw_or (pt_cmpR op_ne (pe_callB (call_isD kit_lst) (by rfl) B.isi boot_isinstance (pa_cons (pv 0) (pa_cons (pe_bltn (v := .ty "list") (by rfl) B.list_ boot_list rfl) pa_nil))) (pe_callB (call_isD kit_lst) (by rfl) B.isi boot_isinstance (pa_cons (pv 1) (pa_cons (pe_bltn (v := .ty "list") (by rfl) B.list_ boot_list rfl) pa_nil))) (nomark _)) (pw_or1 (pt_cmpR op_ne (pe_callB (call_isD kit_tup) (by rfl) B.isi boot_isinstance (pa_cons (pv 0) (pa_cons (pe_bltn (v := .ty "tuple") (by rfl) B.tuple_ boot_tuple rfl) pa_nil))) (pe_callB (call_isD kit_tup) (by rfl) B.isi boot_isinstance (pa_cons (pv 1) (pa_cons (pe_bltn (v := .ty "tuple") (by rfl) B.tuple_ boot_tuple rfl) pa_nil))) (nomark _))))) (pss_one (ps_ret pe_bl)) pss_nil)
      (pss_cons (ps_if (pt_cmpR op_ne (pe_callB call_len_seq (by rfl) B.len_ PySem.boot_len (pa_cons (pv 0) pa_nil)) (pe_callB call_len_seq (by rfl) B.len_ PySem.boot_len (pa_cons (pv 1) pa_nil)) (nomark _)) (pss_one (ps_ret pe_bl)) pss_nil)
      (pss_one (ps_ret (pe_cmpR (op_eqNilL hr.units0) (pe_lc (own := [("_law_k", 2)]) (g := gName 2) rfl scSame.nd (pi_range1 (by rfl) B.range_ (pa_cons (pe_callB call_len_seq (by rfl) B.len_ PySem.boot_len (pa_cons (pv 1) pa_nil)) pa_nil)) (blkOk_by (N := nSame) (sc := defScope sSame) (by decide +kernel)) (fun _ _ _ _ _ => pg_name (i := 2) scSame.nd rfl (Or.inl rfl)) (fun _ _ _ _ _ => pts_one (pt_not (pt_val (pe_can C0 hr (by rfl) (pa_cons (pe_ix (ix_listK (K := K) rfl) (pv 0) (pv 2) (fun _ _ => rfl)) (pa_cons (pe_ix (ix_listK (K := K) rfl) (pv 1) (pv 2) (fun _ _ => rfl)) pa_nil)))))) (fun _ _ _ _ _ => (pv 2))) (pe_lst pa_nil) (nomark _)))))) pss_nil)
      (pss_cons ps_never
      (pss_cons ps_never
      (pss_one ps_never))), ?_⟩
        cases hv with
        | lst n1 ea da =>
          rename_i a xs
          cases hu with
          | lst n2 eb db =>
            rename_i b ys
            have la := da.len
            have lb := db.len
            refine ⟨.ref b, rfl, show 2 ≤ sizeLine by decide, fun T nT => ⟨.ref b, T, _, .type "list", [.type "list", .type "tuple"], true, rfl, upd_same, .cons (.ty _) (.cons (.ty _) .nil), .base (.lst (st nT eb)), kit_lst_lt, _, rfl, iteT ?_⟩⟩
            have kT : Keep [] H (upd H T (.tup [.ty "list", .ty "tuple"])) := Keep.new nT
            have ea' := kT a _ ea List.not_mem_nil
            have eb' := kT b _ eb List.not_mem_nil
            have da' := da.keep kT
            have db' := db.keep kT
            have A : Dt [] (upd H T (.tup [.ty "list", .ty "tuple"])) (.ref a) (.list ds) := .lst List.not_mem_nil ea' da'
            have Bb : Dt [] (upd H T (.tup [.ty "list", .ty "tuple"])) (.ref b) (.list ds) := .lst List.not_mem_nil eb' db'
            generalize upd H T (.tup [.ty "list", .ty "tuple"]) = G at ea' eb' kT da' db' A Bb
            refine ⟨.ref a, rfl, _, _, [], rfl, A, .ref b, rfl, _, _, [], rfl, Bb, rfl, _, rfl, iteF ?_⟩
            refine ⟨.ref a, rfl, _, _, [], rfl, A, .ref b, rfl, _, _, [], rfl, Bb, rfl, _, rfl, iteF ?_⟩
            refine ⟨.ref a, rfl, a, _, rfl, .inl (SqL.of ea'), .ref b, rfl, b, _, rfl, .inl (SqL.of eb'), rfl, _, rfl, ?_⟩
            rw [la, lb]
            refine iteNS rfl ?_
            refine ⟨.ref b, rfl, b, _, rfl, .inl (SqL.of eb'), _, rfl, by omega, by omega, fun W nW => ?_⟩
            refine lc_range (lo := 0) (n := ((ys.length : Int)).toNat) (FI W G fun k => true) (FI.start nW) (fun j J hj p => ?_) (fun J p => ?_)
            · have lj : j < ds.length := by omega
              have gd : ds[j]? = some ds[j] := List.getElem?_eq_getElem lj
              obtain ⟨va, gva, dva⟩ := da'.get j gd
              obtain ⟨vb, gvb, dvb⟩ := db'.get j gd
              have ea5 := p.1.same a _ ea'
              have eb5 := p.1.same b _ eb'
              refine ⟨rfl, .ref a, rfl, .int (0 + (j : Int)), rfl, a, _, 0 + (j : Int), va, rfl, rfl, SqL.of ea5, atI_of (by omega) (by rw [show (0 + (j : Int)).toNat = j by omega]; exact gva), .ref b, rfl, .int (0 + (j : Int)), rfl, b, _, 0 + (j : Int), vb, rfl, rfl, SqL.of eb5, atI_of (by omega) (by rw [show (0 + (j : Int)).toNat = j by omega]; exact gvb), va, vb, ds[j], rfl, dva.keep p.1, dvb.keep p.1, hd _ (List.getElem_mem lj), fun J2 k2 => ⟨_, rfl, iteF ?_⟩⟩
              exact (p.go k2).skip rfl
            · obtain ⟨k3, ws, ew, lw, zw⟩ := p
              refine ⟨show 0 ≤ sizeLine by decide, fun z nz => ?_⟩
              refine ⟨W, z, ws, rfl, rfl, SqL.of (st nz ew), SqL.of upd_same, ?_⟩
              have e : ws.isEmpty = true := by rw [zw]; exact List.all_eq_true.mpr fun _ _ => rfl
              have := q _ ((kT.trans k3).trans (Keep.new (o := .lst []) nz))
              rw [← e] at this
              exact this
end
end Rw

namespace Rw
open PySem PySem.Spec PyProof.Rows L2
/-! ### the name of a place along a pipe -/
section
variable {P : Program} {w : World} {K : PySem.W.Frag} {mg : Str → Option Value} {base : Heap}
abbrev sNamed : Stmt := topS 54
abbrev nNamed : List Str := ["_law_house_here", "_law_pipe_here", "_law_at", "_law_one_here", "_law_other", "_law_length_here"]
theorem scNamed : FnScope nNamed ["_law_house_here", "_law_pipe_here", "_law_at"] (defScope sNamed) := ⟨rfl, rfl, rfl, by decide +kernel, rfl, by decide +kernel, by decide +kernel⟩
def spNamed : Sp := fun vs H Q _ => ∃ (h : V) (n i t : Int) (ps : List Pi) (av : List Addr), vs = [h, .int i, .int t] ∧ Dt av H h (houseD n (ps.map Pi.dat)) ∧ 0 ≤ i ∧ i < ps.length ∧ Tr av H ∧
  ∀ (H' : Hp) (a : Addr), Keep [] H H' → H a = none → Dt av H' (.ref a) (tupI (nm ps i t)) → Tr av H' → Q (.ref a) H'
theorem ok_named (h : Has K mg "_law_named" sNamed) (B : Blt mg) : Can P w K mg base "_law_named" ["_law_house_here", "_law_pipe_here", "_law_at"] 1 spNamed := by
  obtain ⟨f, fd, F, g⟩ := h
  refine ⟨f, fd, F.ok (k := 0) scNamed (fun vs H Q E h => ?_) (fun cdv A outer s H vs Q E hr h => ?_), g, F.kp, F.binds fun _ _ _ _ _ _ us hl => match us, hl with | [_, _, _], _ => rfl⟩
  · obtain ⟨h, n, i, t, ps, av, rfl, _⟩ := h
    rfl
  · obtain ⟨h, n, i, t, ps, av, rfl, dh, i0, i1, tr, q⟩ := h
    refine ⟨_, pss_cons (ps_asg (pe_slice sl_tup (pe_ix ix_tup (pe_ix ix_tup (pv 0) pe_int (fun _ _ => rfl)) (pv 1) (fun _ _ => rfl)) po_none (po_some pe_int)) (pg_tup (by rfl) (pgs_cons (pg_name (i := 3) scNamed.nd rfl (by first | exact Or.inl rfl | exact Or.inr rfl)) (pgs_cons (pg_name (i := 4) scNamed.nd rfl (by first | exact Or.inl rfl | exact Or.inr rfl)) (pgs_cons (pg_name (i := 5) scNamed.nd rfl (by first | exact Or.inl rfl | exact Or.inr rfl)) pgs_nil)))))
      (pss_cons (ps_if (pt_cmpR op_eq (pv 2) pe_int (nomark _)) (pss_one (ps_ret (pe_tup (pa_cons (pv 3) pa_nil)))) pss_nil)
      (pss_one (ps_ret (pe_ix ix_list (pe_lst (pa_cons (pe_tup (pa_cons (pv 1) (pa_cons (pv 2) pa_nil))) (pa_cons (pe_tup (pa_cons (pv 4) pa_nil)) pa_nil))) (pe_callTy call_int1 (by rfl) B.int_ boot_int (pa_cons (pe_cmpR op_eq (pv 2) (pv 5) (nomark _)) pa_nil)) (fun _ _ => rfl))))), ?_⟩
    obtain ⟨ah, ap, xp, rfl, nah, eah, nap, eap, dxp⟩ := house_parts dh
    obtain ⟨p', pa, T1, T2, mp, hp', epa, eP⟩ := pi_at dxp i0 i1
    have ep : p' = pr ps i := by
      have z := (pr_mem i0 i1).2
      rw [z] at hp'; exact (Option.some.inj hp').symm
    subst ep
    refine ⟨.ref ah, rfl, ah, _, 1, .ref ap, rfl, rfl, SqT.of eah, atI_nat (j := 1) rfl, .int i, rfl, ap, _, i, .ref pa, rfl, rfl, SqT.of eap, epa, 3, rfl, pa, _, rfl, SqT.of eP, (show ¬ (HT.sIx 5 0 none = 0 ∧ HT.sIx 5 5 (some 3) = 5) by decide), fun c nc => ?_⟩
    rw [show cutV [V.int (pr ps i).x, V.int (pr ps i).y, V.int (pr ps i).l, V.ref T1, V.ref T2] none (some 3) = [.int (pr ps i).x, .int (pr ps i).y, .int (pr ps i).l] from cut_to _ 3]
    refine ⟨c, [.int (pr ps i).x, .int (pr ps i).y, .int (pr ps i).l], rfl, SqT.of upd_same, rfl, _, _, rfl, _, _, rfl, _, [], rfl, rfl, ?_⟩
    have k1 : Keep [] H (upd H c (.tup [.int (pr ps i).x, .int (pr ps i).y, .int (pr ps i).l])) := Keep.new nc
    have tr1 : Tr av (upd H c (.tup [.int (pr ps i).x, .int (pr ps i).y, .int (pr ps i).l])) := tr.upd
    generalize upd H c (.tup [.int (pr ps i).x, .int (pr ps i).y, .int (pr ps i).l]) = H1 at k1 tr1
    refine ⟨.int t, rfl, rfl, _, rfl, ite2 (fun e => ?_) (fun e => ?_)⟩
    · have e0 : t = 0 := V.int.inj (of_decide_eq_true e)
      refine ⟨.int (pr ps i).x, rfl, show 1 ≤ sizeLine by decide, fun z nz => ?_⟩
      refine q _ z (k1.trans (Keep.new nz)) (k1.fr nz) ?_ tr1.upd
      rw [e0, nm_0]
      exact .tup (tr1.not nz) upd_same (.cons (.int _) .nil)
    · have e0 : t ≠ 0 := fun z => e (decide_eq_true (by rw [z]))
      refine ⟨.int i, rfl, .int t, rfl, show 2 ≤ sizeLine by decide, fun z nz => ⟨.int (pr ps i).y, rfl, show 1 ≤ sizeLine by decide, fun y ny => ?_⟩⟩
      have k2 : Keep [] H1 (upd H1 z (.tup [.int i, .int t])) := Keep.new nz
      have k3 : Keep [] H1 (upd (upd H1 z (.tup [.int i, .int t])) y (.tup [.int (pr ps i).y])) := k2.trans (Keep.new ny)
      have ez : (upd (upd H1 z (.tup [.int i, .int t])) y (.tup [.int (pr ps i).y])) z = some (.tup [.int i, .int t]) := by
        rw [upd_ne (ne_of_none (upd_same (H := H1) (a := z)) ny)]; exact upd_same
      have tr3 : Tr av (upd (upd H1 z (.tup [.int i, .int t])) y (.tup [.int (pr ps i).y])) := tr1.upd.upd
      have nzav : z ∉ av := tr1.not nz
      have nyav : y ∉ av := (tr1.upd (p := z) (o := .tup [.int i, .int t])).not ny
      refine ⟨show 2 ≤ sizeLine by decide, fun l nl => ?_⟩
      refine ⟨.int t, rfl, .int (pr ps i).l, rfl, rfl, .inr ⟨_, rfl, ?_⟩⟩
      have k4 := k3.trans (Keep.new (av := []) (o := .lst [.ref z, .ref y]) nl)
      by_cases hc : t = (pr ps i).l
      · rw [show decide (V.int t = V.int (pr ps i).l) = true from decide_eq_true (by rw [hc])]
        refine ⟨l, [.ref z, .ref y], 1, .ref y, rfl, rfl, SqL.of upd_same, atI_nat (j := 1) rfl, ?_⟩
        refine q _ y (k1.trans k4) ((k1.trans k2).fr ny) ?_ tr3.upd
        have en : nm ps i t = [(pr ps i).y] := by
          have l0 : (pr ps i).l ≠ 0 := by rw [← hc]; exact e0
          rw [hc, nm_l l0]
        rw [en]
        exact (Dt.tup nyav upd_same (.cons (.int _) .nil)).keep (Keep.new nl)
      · rw [show decide (V.int t = V.int (pr ps i).l) = false from decide_eq_false fun y => hc (V.int.inj y)]
        refine ⟨l, [.ref z, .ref y], 0, .ref z, rfl, rfl, SqL.of upd_same, atI_nat (j := 0) rfl, ?_⟩
        refine q _ z (k1.trans k4) (k1.fr nz) ?_ tr3.upd
        rw [nm_mid e0 hc]
        exact (Dt.tup nzav ez (.cons (.int _) (.cons (.int _) .nil))).keep (Keep.new nl)
end
end Rw

namespace Rw
open PySem PySem.Spec PyProof.Rows L2
theorem ok_nm' {n : Int} {ps : List Pi} (h : ∀ p ∈ ps, p.ok n) {i a : Int} (h0 : 0 ≤ i) (h1 : i < ps.length) (a0 : 0 ≤ a) (a1 : a ≤ (pr ps i).l) : okP n ps (nm ps i a) := by
  have z := h _ (pr_mem h0 h1).1
  have x0 := z.x0
  have x1 := z.x1
  have y0 := z.y0
  have y1 := z.y1
  unfold nm
  split
  · exact ⟨x0, by omega⟩
  · split
    · exact ⟨y0, by omega⟩
    · exact ⟨h0, h1, by omega, by omega⟩
theorem prs_depth : ∀ na : List (Int × Int), PyData.depthAll (na.map prD) ≤ 1
  | [] => by simp [PyData.depthAll]
  | p :: na => by
    have e : prD p = .tuple [.int p.1, .int p.2] := rfl
    have := prs_depth na
    rw [List.map_cons, e]
    simp only [PyData.depthAll, PyData.depth]
    omega
theorem pis_depth : ∀ ps : List Pi, PyData.depthAll (ps.map Pi.dat) ≤ 3
  | [] => by simp [PyData.depthAll]
  | p :: ps => by
    have e : p.dat = .tuple [.int p.x, .int p.y, .int p.l, .tuple (p.na.map prD), .tuple (p.fl.map prD)] := rfl
    have := pis_depth ps
    have := prs_depth p.na
    have := prs_depth p.fl
    rw [List.map_cons, e]
    simp only [PyData.depthAll, PyData.depth]
    omega
section
variable {P : Program} {w : World} {K : PySem.W.Frag} {mg : Str → Option Value} {base : Heap}
abbrev sPlaceL : Stmt := topS 55
theorem scPlaceL : FnScope ["_law_deck_here", "_law_house_here", "_law_pipe_here"] ["_law_deck_here", "_law_house_here"] (defScope sPlaceL) := ⟨rfl, rfl, rfl, by decide +kernel, rfl, by decide +kernel, by decide +kernel⟩
def spPlaceL : Sp := fun vs H Q _ => ∃ (h : V) (D C R : Addr) (n b : Int) (ps : List Pi) (av : List Addr), vs = [.ref D, h] ∧ Dt av H h (houseD n (ps.map Pi.dat)) ∧ 1 ≤ n ∧ n ≤ 16 ∧ (ps.length : Int) = n - 1 ∧ (∀ p ∈ ps, p.ok n) ∧ Deck H D C R b ∧ b ≤ 600000000 ∧ Tr av H ∧ D ∈ av ∧ R ∈ av ∧
  ∀ H' (a : Addr) (z : Pl), Keep [D, R] H H' → Deck H' D C R (b + 10) → H a = none → Dt av H' (.ref a) (tupI z) → okP n ps z → Tr av H' → Q (.ref a) H'
theorem ok_placeL (h : Has K mg "_law_place" sPlaceL) (B : Blt mg) (CN : Can P w K mg base "_law_next" ["_law_deck_here", "_law_many"] 1 spNext) (CE : Can P w K mg base "_law_edge" ["_law_deck_here", "_law_many"] 3 spEdge)
    (CM : Can P w K mg base "_law_named" ["_law_house_here", "_law_pipe_here", "_law_at"] 1 spNamed) : Can P w K mg base "_law_place" ["_law_deck_here", "_law_house_here"] 4 spPlaceL := by
  obtain ⟨f, fd, F, g⟩ := h
  refine ⟨f, fd, F.ok (k := 3) scPlaceL (fun vs H Q E h => ?_) (fun cdv A outer s H vs Q E hr h => ?_), g, F.kp, F.binds fun _ _ _ _ _ _ us hl => match us, hl with | [_, _], _ => rfl⟩
  · obtain ⟨h, D, C, R, n, b, ps, av, rfl, _⟩ := h
    rfl
  · obtain ⟨h, D, C, R, n, b, ps, av, rfl, dh, n0, hn, hl, okp, dk, hb, tr, mD, mR, q⟩ := h
    refine ⟨_, pss_cons (ps_if (PW.pt (pw_or (pt_cmpR (op_eqD hr.units) (pe_ix ix_tup (pv 1) pe_int (fun _ _ => rfl)) (pe_tup pa_nil) (nomark _)) (pw_or1 (pt_cmpR op_eq (pe_can CN (hr.mono (by decide)) (by rfl) (pa_cons (pv 0) (pa_cons pe_int pa_nil))) pe_int (nomark _)))))
        (pss_one (ps_ret (pe_tup (pa_cons (pe_can CN (hr.mono (by decide)) (by rfl) (pa_cons (pv 0) (pa_cons (pe_ix ix_tup (pv 1) pe_int (fun _ _ => rfl)) pa_nil))) pa_nil)))) pss_nil)
      (pss_cons (ps_set (i := 2) scPlaceL.nd rfl (.inl rfl) (pe_can CN (hr.mono (by decide)) (by rfl) (pa_cons (pv 0) (pa_cons (pe_callB call_len_seq (by rfl) B.len_ PySem.boot_len (pa_cons (pe_ix ix_tup (pv 1) pe_int (fun _ _ => rfl)) pa_nil)) pa_nil))))
      (pss_one (ps_ret (pe_can CM (hr.mono (by decide)) (by rfl) (pa_cons (pv 1) (pa_cons (pv 2) (pa_cons (pe_can CE hr (by rfl) (pa_cons (pv 0) (pa_cons (pe_op op_add (pe_ix ix_tup (pe_ix ix_tup (pe_ix ix_tup (pv 1) pe_int (fun _ _ => rfl)) (pv 2) (fun _ _ => rfl)) pe_int (fun _ _ => rfl)) pe_int) pa_nil))) pa_nil))))))), ?_⟩
    obtain ⟨ah, ap, xp, rfl, nah, eah, nap, eap, dxp⟩ := house_parts dh
    have subDR : ∀ z ∈ [D, R], z ∈ av := by
      intro z hz
      simp only [List.mem_cons, List.not_mem_nil, or_false] at hz
      rcases hz with hz | hz <;> (subst hz; assumption)
    refine ⟨.ref ah, rfl, ah, _, 1, .ref ap, rfl, rfl, SqT.of eah, atI_nat (j := 1) rfl, show 0 ≤ sizeLine by decide, fun c nc => ?_⟩
    have k1 : Keep [] H (upd H c (.tup [])) := Keep.new nc
    have d1 : Deck (upd H c (.tup [])) D C R b := dk.new nc
    have tr1 : Tr av (upd H c (.tup [])) := tr.upd
    have dh1 : Dt av (upd H c (.tup [])) (.ref ah) (houseD n (ps.map Pi.dat)) := dh.keep (Keep.of k1)
    have eah1 := k1.same ah _ eah
    have eap1 := k1.same ap _ eap
    have dxp1 : Dts av (upd H c (.tup [])) xp (ps.map Pi.dat) := dxp.keep (Keep.of k1)
    refine ⟨.tuple (ps.map Pi.dat), .tuple [], L2.Dp.tup (SqT.of eap1) (Dts.dp _ _ dxp1 (lay_pis ps)), .tup (SqT.of upd_same) .nil, shaped_of (by simp only [PyData.canLay0]; exact lay_pis ps) ?_, by decide, _, rfl, ?_⟩
    · have := pis_depth ps
      simp only [PyData.depth]; omega
    generalize hH1 : upd H c (.tup []) = H1 at *
    -- a room
    have room : ∀ (H2 : Hp) (b2 : Int), Keep [D, R] H H2 → Deck H2 D C R b2 → b2 ≤ b + 2 → ∀ H3 k, Keep [D, R] H2 H3 → Deck H3 D C R (b2 + 1) → 0 ≤ k → k < n → ∀ z, H3 z = none → Q (.ref z) (upd H3 z (.tup [.int k])) := fun H2 b2 k2 d2 hb2 H3 k k3 d3 a1 a2 z nz => by
      have kk := k2.trans k3
      exact q _ z [k] (kk.trans (Keep.new nz)) ((d3.new nz).mono (by omega)) (kk.free d3 nz) (.tup ((tr.keep kk d3).not nz) upd_same (.cons (.int k) .nil)) ⟨a1, a2⟩ (tr.keep kk d3).upd
    have k1' : Keep [D, R] H H1 := Keep.of k1
    rw [eqv_nil]
    refine ite2 (fun e => ?_) (fun e => ?_)
    · refine ⟨.ref D, rfl, .ref ah, rfl, ah, _, 0, .int n, rfl, rfl, SqT.of eah1, atI_nat (j := 0) rfl, D, C, R, b, n, rfl, n0, by omega, d1, by omega, fun H3 k k3 d3 a1 a2 => ?_⟩
      exact ⟨show 1 ≤ sizeLine by decide, room H1 b k1' d1 (by omega) H3 k k3 d3 a1 a2⟩
    · refine ⟨.ref D, rfl, D, C, R, b, 3, rfl, by decide, by decide, d1, by omega, fun H2 k2v k2 d2 _ _ => ⟨rfl, _, rfl, ite2 (fun e2 => ?_) (fun e2 => ?_)⟩⟩
      · have eah2 := k2 ah _ eah1 (fun m => nah (subDR _ m))
        refine ⟨.ref D, rfl, .ref ah, rfl, ah, _, 0, .int n, rfl, rfl, SqT.of eah2, atI_nat (j := 0) rfl, D, C, R, b + 1, n, rfl, n0, by omega, d2, by omega, fun H3 k k3 d3 a1 a2 => ?_⟩
        exact ⟨show 1 ≤ sizeLine by decide, room H2 (b + 1) (k1'.trans k2) d2 (by omega) H3 k k3 d3 a1 a2⟩
      · have pos : 0 < ps.length := by
          cases ps with
          | nil => exact absurd rfl e
          | cons _ _ => exact Nat.succ_pos _
        have eah2 := k2 ah _ eah1 (fun m => nah (subDR _ m))
        have eap2 := k2 ap _ eap1 (fun m => nap (subDR _ m))
        have lx : xp.length = ps.length := by rw [dxp.len, List.length_map]
        refine ⟨.ref D, rfl, .ref ah, rfl, ah, _, 1, .ref ap, rfl, rfl, SqT.of eah2, atI_nat (j := 1) rfl, ap, _, rfl, .inr (SqT.of eap2), D, C, R, b + 1, _, rfl, by omega, by omega, d2, by omega, fun H3 k k3 d3 a1 a2 => ?_⟩
        have dh3 := (dh1.keep (k2.mono subDR)).keep (k3.mono subDR)
        have eah3 := k3 ah _ eah2 (fun m => nah (subDR _ m))
        have eap3 := k3 ap _ eap2 (fun m => nap (subDR _ m))
        have dxp3 := (dxp1.keep (k2.mono subDR)).keep (k3.mono subDR)
        obtain ⟨p, pa, T1, T2, mp, hp, epa, eP⟩ := pi_at dxp3 a1 (by omega : k < ps.length)
        have okq := okp p mp
        have l1 := okq.fit.l1
        have l2 := okq.fit.l2
        refine ⟨.ref ah, rfl, .int k, rfl, .ref D, rfl, .ref ah, rfl, ah, _, 1, .ref ap, rfl, rfl, SqT.of eah3, atI_nat (j := 1) rfl, .int k, rfl, ap, _, k, .ref pa, rfl, rfl, SqT.of eap3, epa, pa, _, 2, .int p.l, rfl, rfl, SqT.of eP, atI_nat (j := 2) rfl, p.l, 1, rfl, rfl,
          D, C, R, b + 1 + 1, p.l + 1, rfl, by omega, by omega, d3, by omega, fun H4 t k4 d4 a3 a4 => ?_⟩
        have kk : Keep [D, R] H H4 := k1'.trans (k2.trans (k3.trans k4))
        have ep : p = pr ps k := by
          have z := (pr_mem a1 (by omega : k < ps.length)).2
          rw [z] at hp; exact (Option.some.inj hp).symm
        subst ep
        refine ⟨.ref ah, n, k, t, ps, av, rfl, dh3.keep (k4.mono subDR), a1, by omega, tr.keep kk d4, fun H5 a k5 na' da tr5 => ?_⟩
        exact q H5 a (nm ps k t) (kk.trans (Keep.of k5)) ((d4.keep k5).mono (by omega)) (kk.free d4 na') da (ok_nm' okp a1 (by omega) a3 (by omega)) tr5
end
end Rw

namespace Rw
open PySem PySem.Spec PyProof.Rows L2
/-! ### defs that are called where nothing is being shown: they may show lists -/
structure FnG (P : Program) (w : World) (K : PySem.W.Frag) (mg : Str → Option Value) (base : Heap) (CX : CXT) (k : Nat) (f : Addr) (fd : FuncData) (ps : List Str) (sp : Sp) : Prop where
  ln : ∀ vs H Q E, sp vs H Q E → vs.length = ps.length
  go : ∀ (A : Around) (out : List Env) (s : Shared) (H : Hp) (ar : Args) (us : List Value) (vs : List V) (Q : VK) (E : XK), Room k A → A.guards = some [] → Env0 P w K mg base A out s H → BindsTo s fd ar (ps.zip us) → Vals vs us → sp vs H Q E → codeAny (model P w) A (.call (.ref f) ar) (CR CX out P w H s Q E) s
section
variable {P : Program} {w : World} {K : PySem.W.Frag} {mg : Str → Option Value} {base : Heap}
theorem fnG_of {CX : CXT} {f : Addr} {x q : Str} {st : Stmt} {fd : FuncData} {N ps : List Str} {k : Nat} {sp : Sp} (F : Fun K x q st f fd) (S : FnScope N ps (defScope st)) (ln : ∀ vs H Q E, sp vs H Q E → vs.length = ps.length)
    (body : ∀ (cdv : Value) (A : Around) (out : List Env) (s : Shared) (H : Hp) (vs : List V) (Q : VK) (E : XK), Room k (A.deeper (envOfC q (defScope st) s.heap.objs.size f cdv)) → A.guards = some [] → sp vs H Q E →
      ∃ t, PSs (cxOf CX P w K mg base N q (defScope st) f cdv A out s H E) (defBody st) t ∧ t { nx := fun _ H' => Q .non H', rt := Q } (L2.start N vs) H) : FnG P w K mg base CX (k + 1) f fd ps sp := by
  obtain ⟨oc, od, kV, doc, pm, an, cdv, ct, osl, rfl, lk, hcd⟩ := F.ex
  refine ⟨ln, fun A out s H ar us vs Q E room hg e0 hb r hsp => ?_⟩
  have KX : K.In s.heap := e0.mod.kin.keeps (fun b o e => (e0.bs b o e).1)
  have lim : s.heap.NoLimit := e0.mod.nolimit.keeps (fun b o e => (e0.bs b o e).1)
  have kinds : ∀ z ∈ ps.zip us, (defScope st).names.lookup z.1 = some .local ∨ ((defScope st).names.lookup z.1 = some .cell ∧ ((cellsFrom (s.heap.objs.size + 1) (defScope st).names []).lookup z.1).isSome = true) := fun ⟨n, v⟩ hz => by
    rcases S.par n (List.of_mem_zip hz).1 with g | g
    · exact Or.inl g
    · exact Or.inr ⟨g, PySem.W.cellsFrom_some _ _ _ (.inl g)⟩
  refine codeAny_call_function room.depth (KX _ _ lk) rfl S.co S.gen rfl (PySem.W.codeRec_of KX hcd) (hb _ _ _ _ (wpAny_newFunctionEnv_cells S.kind kinds fun env he s1 ic => ?_))
  subst he
  refine ⟨lim.keeps ic.toInCall.keep, codeAny_func ?_⟩
  obtain ⟨t, ht, hq⟩ := body cdv A out s H vs Q E (room.deeper _) hg hsp
  have I : Inv (cxOf CX P w K mg base N q (defScope st) f cdv A out s H E) [] (L2.start N vs) H s1 := inv_start S room.hd e0 (ln _ _ _ _ hsp) r ic
  refine wpAny_mono (ht.run [] s1 (L2.start N vs) H _ I hq) (fun fl s2 hs => ?_) fun e s2 hs => hs
  cases fl with
  | ret u2 =>
    obtain ⟨v2, σ2, H2, J, rv, z⟩ := hs
    exact ⟨v2, H2, J.os, J.bare, J.base, J.hok, rv, z⟩
  | next =>
    obtain ⟨σ2, H2, J, z⟩ := hs
    exact ⟨V.non, H2, J.os, J.bare, J.base, J.hok, rfl, z⟩
  | brk =>
    obtain ⟨_, _, _, z⟩ := hs
    exact False.elim z
  | cont =>
    obtain ⟨_, _, _, z⟩ := hs
    exact False.elim z
end
def CanG (P : Program) (w : World) (K : PySem.W.Frag) (mg : Str → Option Value) (base : Heap) (x : Str) (ps : List Str) (k : Nat) (sp : Sp) : Prop :=
  ∃ f fd, FnG P w K mg base CX0 k f fd ps sp ∧ mg x = some (.ref f) ∧ PySem.W.keepIn K (.ref f) = true ∧ Binds K fd ps []
theorem pe_canG {X : Cx} {x : Str} {ps : List Str} {k : Nat} {sp : Sp} {e : Expr} {es : List Expr} {t : TA} {p pos : Pos} (C : CanG X.prog X.w X.K X.mg X.base x ps k sp) (hr : Room k X.A) (hgu : X.A.guards = some []) (hg : Gl X x)
    (ha : PA X (e :: es) t) (hdb : (x == ("__debug__" : Str)) = false := by decide) (he : starEach (e :: es) X.env = (false, eval e X.env) :: starEach es X.env := by rfl) (hpl : (backTo pos (starEach es X.env)).any (·.1) = false := by rfl) :
    PE X (.Call (.Name x p) (e :: es) [] pos) (tCall sp [] E0 t) := by
  obtain ⟨f, fd, F, gm, kp, b⟩ := C
  refine ⟨fun pn s0 σ H Q I h => wpAny_Call_Name_kw (ld_glob I hg gm (PySem.W.callWith_K (h₀ := X.base) I.ok.mod.kin kp (thn (ha.run pos pn s0 σ H _ I h) fun us s1 hh => ?_) he hpl) hdb)⟩
  obtain ⟨vs, H1, I1, r, q⟩ := hh
  rw [List.append_nil] at q
  have hl : (us ++ []).length = ps.length := by rw [List.append_nil, ← r.length]; exact F.ln _ _ _ _ q
  have bt := b s1 us I1.kIn hl
  rw [List.append_nil] at bt
  refine ⟨I1.kIn, wpAny_call (codeAny_mono (F.go X.A X.stack s1 H1 ⟨us, []⟩ us vs Q E0 hr hgu I1.env0 bt r q) fun z s2 hz => ?_)⟩
  match z, hz with
  | .ok (.ret u), hz => exact I1.after hz
  | .ok .next, hz => exact False.elim hz
  | .ok .brk, hz => exact False.elim hz
  | .ok .cont, hz => exact False.elim hz
  | .error _, hz => exact False.elim hz
/-! ### defs that may let an error out -/
def CanX (P : Program) (w : World) (K : PySem.W.Frag) (mg : Str → Option Value) (base : Heap) (x : Str) (ps : List Str) (k : Nat) (sp : Sp) : Prop :=
  ∃ f fd, FnOk P w K mg base (L2.CX P w) k f fd ps sp ∧ mg x = some (.ref f) ∧ PySem.W.keepIn K (.ref f) = true ∧ Binds K fd ps []
/-! called in a def that lets the same out -/
theorem pe_canX {X : Cx} {E : XK} {x : Str} {ps : List Str} {k : Nat} {sp : Sp} {e : Expr} {es : List Expr} {t : TA} {p pos : Pos} (C : CanX X.prog X.w X.K X.mg X.base x ps k sp) (hr : Room k X.A) (tk : Takes X (fun cls d _ H => E cls d H)) (hg : Gl X x)
    (ha : PA X (e :: es) t) (hdb : (x == ("__debug__" : Str)) = false := by decide) (he : starEach (e :: es) X.env = (false, eval e X.env) :: starEach es X.env := by rfl) (hpl : (backTo pos (starEach es X.env)).any (·.1) = false := by rfl) :
    PE X (.Call (.Name x p) (e :: es) [] pos) (tCall sp [] E t) := by
  obtain ⟨f, fd, F, gm, kp, b⟩ := C
  exact pe_call F hr hg gm kp b .nil (passes_call tk fun _ _ _ _ z => z) ha hdb he hpl
/-! called in a try -/
theorem pe_canT {X : Cx} {W : WX} {x : Str} {ps : List Str} {k : Nat} {sp : Sp} {e : Expr} {es : List Expr} {t : TA} {p pos : Pos} (C : CanX X.prog X.w X.K X.mg X.base x ps k sp) (hr : Room k X.A) (tk : Takes X W) (hg : Gl X x)
    (ha : PA X (e :: es) t) (hdb : (x == ("__debug__" : Str)) = false := by decide) (he : starEach (e :: es) X.env = (false, eval e X.env) :: starEach es X.env := by rfl) (hpl : (backTo pos (starEach es X.env)).any (·.1) = false := by rfl) :
    PE X (.Call (.Name x p) (e :: es) [] pos) (tCallS sp (WE W) t) := by
  obtain ⟨f, fd, F, gm, kp, b⟩ := C
  exact pe_callS F hr hg gm kp b (fun σ => passAt tk σ) ha hdb he hpl
end Rw

namespace Rw
open PySem PySem.Spec PyProof.Rows L2
/-! ### try: body, except A as n: .., except B as n: .. -/
abbrev Cl := Value × (Addr → Value → Option Addr → TS)
def offN (i : Nat) (D : Ends) : Ends := { nx := fun σ H => D.nx (σ.set i none) H, rt := D.rt, bk := fun σ H => D.bk (σ.set i none) H, ct := fun σ H => D.ct (σ.set i none) H }
def wAsM (K : PySem.W.Frag) (i : Nat) (Wo : WX) (D : Ends) : List Cl → WX
  | [] => Wo
  | c :: r => fun cls d σ H => ∃ b, PySem.W.exmOne K cls c.1 = some b ∧ (b = true → ∀ a, H a = none → c.2 a cls d (offN i D) (σ.set i (some (.ref a))) H) ∧ (b = false → wAsM K i Wo D r cls d σ H)
inductive AsOk (X : Cx) (n : Str) : List ExceptHandler → List Cl → Prop
  | nil : AsOk X n [] []
  | cons {x : Str} {c : Value} {ts : Addr → Value → Option Addr → TS} {b0 : Stmt} {su : List Stmt} {np pp : Pos} {hds : List ExceptHandler} {l : List Cl} (hc : Names X x c)
      (hsu : ∀ (a : Addr) (oe : Obj) (cls : Value) (d : Option Addr) (pn : List (Addr × Obj)), Zc cls d oe → (∃ vs, oe.data = .fields vs) → PSs (X.suite a ((a, oe) :: pn)) (b0 :: su) (ts a cls d)) (r : AsOk X n hds l) :
      AsOk X n (.ExceptHandler (some (.Name x np)) (some n) (b0 :: su) pp :: hds) ((c, ts) :: l)
section
variable {X : Cx} {pins : List (Addr × Obj)} {σ : L2.St} {H : Hp} {i : Nat} {n : Str} {D : Ends} {Wo : WX} {B : Heap} {a : Addr} {cls : Value} {d : Option Addr} {sI s1 : Shared} {h3 : Heap}
/-! what is caught is in no frame -/
theorem caught_off {l : List Env} {h : Heap} {o : Obj} {vs : Array Value} (ff : h.FunFrames B l) (e : h.get? a = some o) (dd : o.data = .fields vs) : a ∉ frs l := fun m => by
  obtain ⟨_, o', e', no⟩ := ff.mem m
  rw [e] at e'; cases e'
  exact no _ dd
/-! the clauses, one behind another -/
theorem as_clauses (ok : X.Ok) (hs : X.stack = X.env :: X.outer) (hf : X.env.frame = some X.env.locals) (hN : X.N.Nodup) (hi : X.N[i]? = some n) (hln : X.env.kindOf n = some .local) (tk : Takes X Wo)
    (J : Inv X pins σ H sI) (nb : ∀ b o, sI.heap.get? b = some o → b ∉ frs X.stack → B.get? b = some o) (up : sI.heap.UpToSlots h3) (fl : HandSPX.FlyingZ B (X.env :: X.outer) a (Zc cls d) h3) (na : H a = none) (os : s1.os = sI.os) (ag : AllBare s1.gens) :
    ∀ {hds : List ExceptHandler} {l : List Cl}, AsOk X n hds l → wAsM X.K i Wo D l cls d σ H → wpAny (model X.prog X.w) X.A (handleBy (.ref a) X.env hds) (SP X pins D) X.xe { s1 with heap := h3 } := by
  have J3 : Inv X pins σ H { s1 with heap := h3 } := J.landed nb fl.1 up os ag
  obtain ⟨oe, vs, he, hz, hd⟩ := fl.there
  have off := caught_off fl.2.2.1 he hd
  have nL : a ≠ X.env.locals := fun z => off (List.mem_filterMap.mpr ⟨X.env, List.mem_cons_self, by rw [hf, z]⟩)
  have nF : a ∉ X.fs := fun m => by
    obtain ⟨e, me, q⟩ := List.mem_filterMap.mp m
    exact off (List.mem_filterMap.mpr ⟨e, List.mem_cons_of_mem _ me, q⟩)
  have S3 := J3.suite he hd na nL nF
  intro hds l hk
  induction hk with
  | nil =>
    intro wish
    obtain ⟨_, _, _, oe', vs', T, oT, ts', he', _, hd', h1, _⟩ := id fl
    have fly : wpAny (model X.prog X.w) X.A (setFlight (.ref a) X.env.frame) (fun _ s4 => wpAny (model X.prog X.w) X.A (throw (.ref a) : Sem Flow) (SP X pins D) X.xe s4) X.xe { s1 with heap := h3 } := by
      rw [hf]
      exact HandSPX.setFlight_upZ fl fun h4 held up4 => wpAny_throw (tk _ _ ⟨a, B, sI, pins, σ, H, cls, d, rfl, J, nb, up.trans up4, .inr (.inr (by rw [hs]; exact held)), na, os, ag, wish⟩)
    refine wpAny_handleBy_nil ?_
    unfold PySem.passOn
    refine wpAny_bind (wpAny_field he' hd' h1 ?_)
    rw [if_neg (show ¬ ((Value.ref T == Value.none) = true) by simp)]
    first | exact wpAny_bind fly | exact wpAny_bind (wpAny_pure (wpAny_bind fly))
  | @cons x c ts b0 su np pp hds2 l2 hc hsu _ ih =>
    intro wish
    obtain ⟨b, hb, yes, no⟩ := wish
    have ty : PySem.W.Looks (model X.prog X.w) h3 (typeOf (.ref a)) cls := fun _ _ _ _ k q => wpAny_typeOf_ref (k _ _ he) (by rw [hz.1]; exact q)
    have mt := PySem.W.exm_one (M := model X.prog X.w) J3.kIn ty hb
    have nam : ∀ {Q : Value → Shared → Prop} {E : Value → Shared → Prop}, Q c { s1 with heap := h3 } → wpAny (model X.prog X.w) (X.A.mark (some (.ref a))) (eval (.Name x np) X.env) Q E { s1 with heap := h3 } := fun {Q E} q => by
      obtain ⟨g1, g2, m | ⟨m1, m2, m3⟩⟩ := hc
      · exact ld_glob (X := X.suite a ((a, oe) :: (X.pn ++ pins))) S3 g1 m q g2
      · exact ld_blt (X := X.suite a ((a, oe) :: (X.pn ++ pins))) S3 g1 m1 m2 q m3 g2
    refine wpAny_handleBy_cons (codeAny_handlers_test (nam (mt.here ?_))) (fun q => by cases q)
    cases b with
    | false => exact ih (no rfl)
    | true =>
      refine codeAny_handlers_suite_as (HandSPX.lands_againZ fl fun h4 fl4 up4 => ?_)
      obtain ⟨o4, v4, he4, hz4, hd4⟩ := fl4.there
      have S4 := (J.landed (s' := { s1 with heap := h4 }) nb fl4.1 (up.trans up4) os ag).suite he4 hd4 na nL nF
      refine store_ok (X := X.suite a ((a, o4) :: (X.pn ++ pins))) (v := .ref a) S4 hN hi (.inl hln) rfl (fun s5 S5 => ?_) (.inr hln)
      refine wpAny_mono ((hsu a o4 cls d (X.pn ++ pins) hz4 ⟨_, hd4⟩).run [] s5 _ H _ S5 (yes rfl a na)) (fun f s6 sp => ?_) (fun _ _ z => False.elim z)
      have gone : ∀ {σ6 : L2.St} {H6 : Hp} {Q : Shared → Prop}, Inv (X.suite a ((a, o4) :: (X.pn ++ pins))) [] σ6 H6 s6 → (∀ s7, Inv X pins (σ6.set i none) H6 s7 → Q s7) → wpAny (model X.prog X.w) X.A (do bindName X.env n .none; unbindBehindTheSuite X.env n pp) (fun _ s7 => Q s7) X.xe s6 :=
        fun S6 hq => gone_ok (S6.unsuite ok) hN hi hln hq
      match f, sp with
      | .next, ⟨_, _, S6, q6⟩ => exact gone S6 fun s7 J7 => ⟨_, _, J7, q6⟩
      | .brk, ⟨_, _, S6, q6⟩ => exact gone S6 fun s7 J7 => ⟨_, _, J7, q6⟩
      | .cont, ⟨_, _, S6, q6⟩ => exact gone S6 fun s7 J7 => ⟨_, _, J7, q6⟩
      | .ret _, ⟨_, _, _, S6, r6, q6⟩ => exact gone S6 fun s7 J7 => ⟨_, _, _, J7, r6, q6⟩
end
section
variable {X : Cx} {n : Str} {i : Nat} {body : List Stmt} {h0 : ExceptHandler} {hds : List ExceptHandler} {l : List Cl} {pos : Pos} {tb : WX → TS} {Wo : WX}
theorem ps_try_asM (hs : X.stack = X.env :: X.outer) (hf : X.env.frame = some X.env.locals) (hN : X.N.Nodup) (hi : X.N[i]? = some n) (hln : X.env.kindOf n = some .local) (tk : Takes X Wo)
    (hb : ∀ (W : WX) (pn : List (Addr × Obj)) (xe : Value → Shared → Prop), Takes (X.tr pn xe) W → PSs (X.tr pn xe) body (tb W))
    (hh : AsOk X n (h0 :: hds) l) : PS X (.Try body (h0 :: hds) [] [] pos) (fun D σ H => tb (wAsM X.K i Wo D l) D σ H) := by
  refine ⟨fun pins s σ H D I h => wpAny_Try_except ?_⟩
  have fr : X.A.frames = some (X.env :: X.outer) := by rw [I.ok.frames, hs]
  refine wpAny_mono ((hb (wAsM X.K i Wo D l) (X.pn ++ pins) (fun e s1 => wpAny (model X.prog X.w) X.A (noteFrame e X.env) (fun _ s2 => wpAny (model X.prog X.w) X.A (setFlight e none) (fun _ s3 =>
    wpAny (model X.prog X.w) X.A (handleBy e X.env (h0 :: hds)) (SP X pins D) X.xe s3) X.xe s2) X.xe s1) (fun u s1 air => ?_)).run [] s σ H D (I.toTry _) h) (fun f s1 sp => ?_) (fun _ _ he => he)
  · obtain ⟨a, B, sI, pins', σ', H', cls, d, rfl, J', nb, up, sky, na, os, ag, wish⟩ := air
    have sky2 : Sky B (X.env :: X.outer) a (Zc cls d) X.env.locals s1.heap := by rw [← hs]; exact sky
    exact Sky.land Zc.steady fr hf sky2 fun h3 fl up3 => as_clauses (s1 := s1) I.ok hs hf hN hi hln tk (J'.ofTry I.ok) nb (up.trans up3) fl na os ag hh wish
  · match f, sp with
    | .next, ⟨σ', H', J', q⟩ => exact wpAny_execs_nil ⟨σ', H', J'.ofTry I.ok, q⟩
    | .brk, ⟨σ', H', J', q⟩ => exact ⟨σ', H', J'.ofTry I.ok, q⟩
    | .cont, ⟨σ', H', J', q⟩ => exact ⟨σ', H', J'.ofTry I.ok, q⟩
    | .ret _, ⟨v, σ', H', J', r, q⟩ => exact ⟨v, σ', H', J'.ofTry I.ok, r, q⟩
end
/-! ### isinstance of what was caught -/
structure ExI (K : PySem.W.Frag) (C : Addr) : Prop where
  cl : (PySem.W.clsIn K C).isSome = true
  ga : PySem.W.findIn K (.ref C) "__getattribute__" = some (some (.builtin "BaseException.__getattribute__"))
  gg : PySem.W.findIn K (.ref C) "__getattr__" = some none
  sb : PySem.W.subIn K (.ref C) (.type "BaseException") = some true
  cc : PySem.W.findIn K (.ref C) "__class__" = some (some (.builtin "object.__class__"))
  gs : PySem.W.specialIn K (.builtin "object.__class__") "__get__" = some (some (.builtin "getset_descriptor.__get__"))
  tk : PySem.W.takesIn K (.builtin "object.__class__") = some true
  mo : PySem.W.mroIn K C (.type "object") = some true
section
variable {X : Cx} {a C : Addr} {oe : Obj} {d : Option Addr} {pn : List (Addr × Obj)}
/-! the caught one, as the library's isinstance wants it -/
theorem caught_inst {pins : List (Addr × Obj)} {σ : L2.St} {H : Hp} {s : Shared} (I : Inv (X.suite a ((a, oe) :: pn)) pins σ H s) (hz : Zc (.ref C) d oe) (hf : ∃ vs, oe.data = .fields vs) (hd : ∀ dd, d = some dd → ∃ fs, H dd = some (.xd fs)) : ∃ od, PySem.W.InstAt s.heap a oe C od := by
  obtain ⟨ha, _⟩ := I.pin (a, oe) (List.mem_append_left _ List.mem_cons_self)
  obtain ⟨vs, ev⟩ := hf
  have nc : PySem.W.notCls oe = true := by unfold PySem.W.notCls; rw [ev] <;> rfl
  cases d with
  | none => exact ⟨none, ha, hz.1, nc, by rw [hz.2]; trivial⟩
  | some dd =>
    obtain ⟨fs, e⟩ := hd dd rfl
    have hx : ObjOk X.prog X.w H s.heap dd (.xd fs) := I.hok dd _ e
    obtain ⟨mA, hns, _⟩ := hx
    obtain ⟨od, ho, _⟩ := lookIn_ns hns
    exact ⟨some od, ha, hz.1, nc, by rw [hz.2]; exact ho⟩
def rIsX (K : PySem.W.Frag) (C a : Addr) (cls : Value) (d : Option Addr) : List V → Hp → VK → Prop := fun xs H Q => cls = .ref C ∧ (∀ dd, d = some dd → ∃ fs, H dd = some (.xd fs)) ∧
  ((∃ (c : Addr) (b : Bool), xs = [.ref a, .ref c] ∧ PySem.W.kitOne K (.ref C) (.ref c) = some b ∧ Q (.bl b) H) ∨
    ∃ (tp : Addr) (cs : List Addr) (b : Bool), xs = [.ref a, .ref tp] ∧ H tp = some (.tup (cs.map V.ref)) ∧ PySem.W.kitAny K (.ref C) (cs.map Value.ref) = some b ∧ Q (.bl b) H)
theorem vals_refs : ∀ {cs : List Addr} {us : List Value}, Vals (cs.map V.ref) us → us = cs.map Value.ref
  | [], _, r => by cases r; rfl
  | c :: cs, _, r => by
    cases r with
    | cons r1 r2 => cases r1; rw [vals_refs r2]; rfl
theorem call_isX {cls : Value} (T : ExI X.K C) (hz : Zc cls d oe) (hf : ∃ vs, oe.data = .fields vs) : CallR (X.suite a ((a, oe) :: pn)) (.builtin "isinstance") (rIsX X.K C a cls d) := by
  intro pins s σ H xs us Q I r h
  obtain ⟨rfl, hd, h⟩ := h
  obtain ⟨od, J⟩ := caught_inst I hz hf hd
  have kx := PySem.W.kitx_exc (x := a) (ox := oe) (od := od) T.cl T.ga T.gg T.sb T.cc T.gs T.tk T.mo
  rcases h with ⟨c, b, rfl, e, q⟩ | ⟨tp, cs, b, rfl, et, e, q⟩
  · obtain ⟨u1, u2, rfl, r1, r2⟩ := vals2 r
    cases r1; cases r2
    exact PySem.W.kia_one kx I.kIn J e (fun z => nomatch z) fun tk => ⟨.bl b, H, I.kept (t' := tk) fun _ _ z => z, rfl, q⟩
  · obtain ⟨u1, u2, rfl, r1, r2⟩ := vals2 r
    cases r1; cases r2
    obtain ⟨its, rv, ⟨o, ho, hc, m, hdt⟩, _⟩ := I.tuple (SqT.of et)
    obtain rfl := vals_refs rv
    obtain ⟨oc, odd, odt, osl⟩ := o
    dsimp only at hc hdt
    subst hc hdt
    exact PySem.W.kia_tup kx I.kIn J ho e (fun z => nomatch z) fun tk => ⟨.bl b, H, I.kept (t' := tk) fun _ _ z => z, rfl, q⟩
end
end Rw

namespace Rw
open PySem PySem.Spec PyProof.Rows L2
/-! ### errors of the program that bear one thing -/
structure ErrT (K : PySem.W.Frag) (mg : Str → Option Value) (nm fld : Str) (C : Addr) : Prop where
  g : mg nm = some (.ref C)
  ox : OexC K C
  xf : XfC K C
  no : PySem.W.findIn K (.ref C) fld = some none
  ei : ExI K C
def spErr (fld : Str) (C : Addr) : Sp := fun vs H Q _ => ∃ (a : Addr) (v : V), vs = [.ref a, v] ∧ H a = some (exo a C none) ∧ ∀ dx, H dx = none → dx ≠ a → Q .non (upd (upd H dx (exd dx [(fld, v)])) a (exo a C (some dx)))
def CanE (P : Program) (w : World) (K : PySem.W.Frag) (mg : Str → Option Value) (base : Heap) (nm fld : Str) (C : Addr) : Prop :=
  ErrT K mg nm fld C ∧ ∃ fI fd, PySem.W.findIn K (.ref C) "__init__" = some (some (.ref fI)) ∧ PySem.W.typeIn K (.ref fI) = some (.type "function") ∧ FnOk P w K mg base CX0 1 fI fd ["self", fld] (spErr fld C) ∧ Binds K fd ["self", fld] []
theorem ps_raiseE {X : Cx} {W : WX} {nm fld : Str} {C : Addr} {e : Expr} {te : TE} {p pos pos' : Pos} (E : CanE X.prog X.w X.K X.mg X.base nm fld C) (hc : X.calm = true) (hr : Room 2 X.A) (tk : Takes X W) (hg : Gl X nm) (ha : PA X [e] (tCons te tNil))
    (hdb : (nm == ("__debug__" : Str)) = false := by decide) (he : starEach (e :: []) X.env = (false, eval e X.env) :: starEach [] X.env := by rfl) (hpl : (backTo pos (starEach [] X.env)).any (·.1) = false := by rfl) :
    PS X (.Raise (some (.Call (.Name nm p) [e] [] pos)) none pos') (fun _ σ H => tMkO C (spErr fld C) [] (tCons te tNil) σ H fun cls d H' => W cls d σ H') := by
  obtain ⟨T, fI, fd, iC, tI, F, b⟩ := E
  exact ps_raise hc tk (pmk_oex (x := nm) T.ox iC tI F hr b .nil pass0 hg T.g ha hdb he hpl)
theorem raise_fin {C : Addr} {fld : Str} {v : V} {H : Hp} {Q : XK} (h : ∀ d, H d = none → Q (.ref C) (some d) (upd H d (.xd [(fld, v)]))) :
    [v].length ≤ 1000 ∧ ∀ a, H a = none → spErr fld C (.ref a :: ([v] ++ [])) (upd H a (exo a C none))
      (fun u H2 => u = .non ∧ ∃ (d : Addr) (fs : List (Str × V)), H2 a = some (exo a C (some d)) ∧ H2 d = some (exd d fs) ∧ H d = none ∧ Q (.ref C) (some d) (upd (del H2 a) d (.xd fs))) (fun _ _ _ => False) := by
  refine ⟨by simp, fun a na => ⟨a, v, rfl, upd_same, fun dx nd ne => ⟨rfl, dx, [(fld, v)], upd_same, by rw [upd_ne ne, upd_same], ?_, ?_⟩⟩⟩
  · rw [upd_ne ne] at nd; exact nd
  · rw [upd_ne ne] at nd
    have e : upd (del (upd (upd (upd H a (exo a C none)) dx (exd dx [(fld, v)])) a (exo a C (some dx))) a) dx (.xd [(fld, v)]) = upd H dx (.xd [(fld, v)]) := by
      funext b
      by_cases h1 : b = dx
      · rw [h1, upd_same, upd_same]
      · rw [upd_ne h1, upd_ne h1]
        by_cases h2 : b = a
        · rw [h2, del_same, na]
        · rw [del_ne h2, upd_ne h2, upd_ne h1, upd_ne h2]
    rw [e]
    exact h dx nd
section
variable {P : Program} {w : World} {K : PySem.W.Frag} {mg : Str → Option Value} {base : Heap}
abbrev sENoPipe : Stmt := inClass (topS 2) 0
theorem scENoPipe : FnScope ["self", "pipe"] ["self", "pipe"] (defScope sENoPipe) := ⟨rfl, rfl, rfl, by decide +kernel, rfl, by decide +kernel, by decide +kernel⟩
theorem okENoPipe {C fI : Addr} {fd : FuncData} (F : Fun K "__init__" "NoPipe.__init__" sENoPipe fI fd) (T : ErrT K mg "NoPipe" "pipe" C) (iC : PySem.W.findIn K (.ref C) "__init__" = some (some (.ref fI))) (tI : PySem.W.typeIn K (.ref fI) = some (.type "function")) : CanE P w K mg base "NoPipe" "pipe" C := by
  refine ⟨T, fI, fd, iC, tI, F.ok (k := 0) scENoPipe (fun vs H Q E h => ?_) (fun cdv A outer s H vs Q E hr h => ?_), F.binds fun _ _ _ _ _ _ us hl => match us, hl with | [_, _], _ => rfl⟩
  · obtain ⟨a, v, rfl, _⟩ := h; rfl
  · obtain ⟨a, v, rfl, ea, q⟩ := h
    exact ⟨_, pss_one (ps_ost (pv 0) (pv 1)), v, rfl, .ref a, rfl, a, C, rfl, T.ox, T.no, .inl ⟨ea, q⟩⟩
abbrev sENoAt : Stmt := inClass (topS 3) 0
theorem scENoAt : FnScope ["self", "at"] ["self", "at"] (defScope sENoAt) := ⟨rfl, rfl, rfl, by decide +kernel, rfl, by decide +kernel, by decide +kernel⟩
theorem okENoAt {C fI : Addr} {fd : FuncData} (F : Fun K "__init__" "NoAt.__init__" sENoAt fI fd) (T : ErrT K mg "NoAt" "at" C) (iC : PySem.W.findIn K (.ref C) "__init__" = some (some (.ref fI))) (tI : PySem.W.typeIn K (.ref fI) = some (.type "function")) : CanE P w K mg base "NoAt" "at" C := by
  refine ⟨T, fI, fd, iC, tI, F.ok (k := 0) scENoAt (fun vs H Q E h => ?_) (fun cdv A outer s H vs Q E hr h => ?_), F.binds fun _ _ _ _ _ _ us hl => match us, hl with | [_, _], _ => rfl⟩
  · obtain ⟨a, v, rfl, _⟩ := h; rfl
  · obtain ⟨a, v, rfl, ea, q⟩ := h
    exact ⟨_, pss_one (ps_ost (pv 0) (pv 1)), v, rfl, .ref a, rfl, a, C, rfl, T.ox, T.no, .inl ⟨ea, q⟩⟩
abbrev sENoRoom : Stmt := inClass (topS 4) 0
theorem scENoRoom : FnScope ["self", "room"] ["self", "room"] (defScope sENoRoom) := ⟨rfl, rfl, rfl, by decide +kernel, rfl, by decide +kernel, by decide +kernel⟩
theorem okENoRoom {C fI : Addr} {fd : FuncData} (F : Fun K "__init__" "NoRoom.__init__" sENoRoom fI fd) (T : ErrT K mg "NoRoom" "room" C) (iC : PySem.W.findIn K (.ref C) "__init__" = some (some (.ref fI))) (tI : PySem.W.typeIn K (.ref fI) = some (.type "function")) : CanE P w K mg base "NoRoom" "room" C := by
  refine ⟨T, fI, fd, iC, tI, F.ok (k := 0) scENoRoom (fun vs H Q E h => ?_) (fun cdv A outer s H vs Q E hr h => ?_), F.binds fun _ _ _ _ _ _ us hl => match us, hl with | [_, _], _ => rfl⟩
  · obtain ⟨a, v, rfl, _⟩ := h; rfl
  · obtain ⟨a, v, rfl, ea, q⟩ := h
    exact ⟨_, pss_one (ps_ost (pv 0) (pv 1)), v, rfl, .ref a, rfl, a, C, rfl, T.ox, T.no, .inl ⟨ea, q⟩⟩
abbrev sENoBy : Stmt := inClass (topS 5) 0
theorem scENoBy : FnScope ["self", "by"] ["self", "by"] (defScope sENoBy) := ⟨rfl, rfl, rfl, by decide +kernel, rfl, by decide +kernel, by decide +kernel⟩
theorem okENoBy {C fI : Addr} {fd : FuncData} (F : Fun K "__init__" "NoBy.__init__" sENoBy fI fd) (T : ErrT K mg "NoBy" "by" C) (iC : PySem.W.findIn K (.ref C) "__init__" = some (some (.ref fI))) (tI : PySem.W.typeIn K (.ref fI) = some (.type "function")) : CanE P w K mg base "NoBy" "by" C := by
  refine ⟨T, fI, fd, iC, tI, F.ok (k := 0) scENoBy (fun vs H Q E h => ?_) (fun cdv A outer s H vs Q E hr h => ?_), F.binds fun _ _ _ _ _ _ us hl => match us, hl with | [_, _], _ => rfl⟩
  · obtain ⟨a, v, rfl, _⟩ := h; rfl
  · obtain ⟨a, v, rfl, ea, q⟩ := h
    exact ⟨_, pss_one (ps_ost (pv 0) (pv 1)), v, rfl, .ref a, rfl, a, C, rfl, T.ox, T.no, .inl ⟨ea, q⟩⟩
abbrev sEFull : Stmt := inClass (topS 6) 0
theorem scEFull : FnScope ["self", "what"] ["self", "what"] (defScope sEFull) := ⟨rfl, rfl, rfl, by decide +kernel, rfl, by decide +kernel, by decide +kernel⟩
theorem okEFull {C fI : Addr} {fd : FuncData} (F : Fun K "__init__" "Full.__init__" sEFull fI fd) (T : ErrT K mg "Full" "what" C) (iC : PySem.W.findIn K (.ref C) "__init__" = some (some (.ref fI))) (tI : PySem.W.typeIn K (.ref fI) = some (.type "function")) : CanE P w K mg base "Full" "what" C := by
  refine ⟨T, fI, fd, iC, tI, F.ok (k := 0) scEFull (fun vs H Q E h => ?_) (fun cdv A outer s H vs Q E hr h => ?_), F.binds fun _ _ _ _ _ _ us hl => match us, hl with | [_, _], _ => rfl⟩
  · obtain ⟨a, v, rfl, _⟩ := h; rfl
  · obtain ⟨a, v, rfl, ea, q⟩ := h
    exact ⟨_, pss_one (ps_ost (pv 0) (pv 1)), v, rfl, .ref a, rfl, a, C, rfl, T.ox, T.no, .inl ⟨ea, q⟩⟩
end
end Rw

namespace Rw
open PySem PySem.Spec PyProof.Rows L2
def inPs (ps : List Pi) (d : PyData) : Bool := within d 0 ((ps.length : Int) - 1)
theorem within_int {d : PyData} {lo hi : Int} (h : within d lo hi = true) : ∃ i, d = .int i ∧ lo ≤ i ∧ i ≤ hi := by
  cases d with
  | int i =>
    have h' : (decide (lo ≤ i) && decide (i ≤ hi)) = true := h
    rw [Bool.and_eq_true] at h'
    exact ⟨i, rfl, of_decide_eq_true h'.1, of_decide_eq_true h'.2⟩
  | none => cases h
  | bool _ => cases h
  | str _ => cases h
  | list _ => cases h
  | tuple _ => cases h
  | dict _ => cases h
theorem int_within {i lo hi : Int} : within (.int i) lo hi = true ↔ lo ≤ i ∧ i ≤ hi := by
  show (decide (lo ≤ i) && decide (i ≤ hi)) = true ↔ _
  rw [Bool.and_eq_true, decide_eq_true_eq, decide_eq_true_eq]
/-! a pipe's narrow places and flaps, by its data -/
theorem pipe_tails {av : List Addr} {H : Hp} {pa T1 T2 : Addr} {p : Pi} {x y l : V} (h : Dt av H (.ref pa) p.dat) (e : H pa = some (.tup [x, y, l, .ref T1, .ref T2])) : Dt av H (.ref T1) (.tuple (p.na.map prD)) ∧ Dt av H (.ref T2) (.tuple (p.fl.map prD)) := by
  have h' : Dt av H (.ref pa) (.tuple [.int p.x, .int p.y, .int p.l, .tuple (p.na.map prD), .tuple (p.fl.map prD)]) := h
  obtain ⟨a, xs, ea, na, eb, db⟩ := tup_at h'
  cases ea
  rw [e] at eb
  cases eb
  cases db with
  | cons _ db => cases db with
    | cons _ db => cases db with
      | cons _ db => cases db with
        | cons d4 db => cases db with
          | cons d5 _ => exact ⟨d4, d5⟩
section
variable {P : Program} {w : World} {K : PySem.W.Frag} {mg : Str → Option Value} {base : Heap}
abbrev sWP : Stmt := topS 17
abbrev nWP : List Str := ["pipes", "number", "row"]
theorem scWP : FnScope nWP ["pipes", "number", "row"] (defScope sWP) := ⟨rfl, rfl, rfl, by decide +kernel, rfl, by decide +kernel, by decide +kernel⟩
def spWP : Sp := fun vs H Q _ => ∃ (xv rv : V) (i : Int) (ds : List PyData) (r : PyData) (av : List Addr), vs = [xv, .int i, rv] ∧ Dt av H xv (.tuple ds) ∧ 0 ≤ i ∧ i < ds.length ∧ ds.length ≤ 100 ∧ Dt av H rv r ∧ Tr av H ∧
  ∀ (H' : Hp) (a : Addr), Keep [] H H' → Tr av H' → Dt av H' (.ref a) (.tuple (ds.set i.toNat r)) → Q (.ref a) H'
theorem ok_wP (h : Has K mg "with_pipe" sWP) : Can P w K mg base "with_pipe" ["pipes", "number", "row"] 1 spWP := by
  obtain ⟨f, fd, F, g⟩ := h
  refine ⟨f, fd, F.ok (k := 0) scWP (fun vs H Q E h => ?_) (fun cdv A outer s H vs Q E hr h => ?_), g, F.kp, F.binds fun _ _ _ _ _ _ us hl => match us, hl with | [_, _, _], _ => rfl⟩
  · obtain ⟨xv, rv, i, ds, r, av, rfl, _⟩ := h
    rfl
  · obtain ⟨xv, rv, i, ds, r, av, rfl, dp, i0, i1, ld, dr, tr, q⟩ := h
    refine ⟨_, pss_one (ps_ret (pe_op op_catA (pe_op op_catA (pe_slice sl_tupA (pv 0) po_none (po_some (pv 1))) (pe_tup (pa_cons (pv 2) pa_nil))) (pe_slice sl_tupA (pv 0) (po_some (pe_op op_add (pv 1) pe_int)) po_none))), ?_⟩
    refine ⟨xv, rfl, .int i, rfl, i, rfl, ?_⟩
    dsimp only [tNoPart]
    refine front_data dp tr i0 (fun H1 r1 k1 t1 e1 => ?_)
    refine ⟨rv, rfl, show 1 ≤ sizeLine by decide, fun r2 n2 => ?_⟩
    obtain ⟨k2, t2, e2⟩ := tup_facts t1 (.cons (dr.keep k1.of) .nil) n2
    generalize upd _ r2 (.tup _) = H2 at k2 t2 e2 ⊢
    refine cat_data (e1.keep k2.of) e2 t2 (by rw [List.length_take]; show min _ _ + 1 ≤ 1000; omega) (fun H3 r3 k3 t3 e3 => ?_)
    have k13 : Keep [] H H3 := k1.trans (k2.trans k3)
    refine ⟨xv, rfl, .int i, rfl, i, 1, rfl, rfl, i + 1, rfl, ?_⟩
    dsimp only [tNoPart]
    refine rear_data (dp.keep k13.of) t3 (by omega) (fun H4 r4 k4 t4 e4 => ?_)
    refine cat_data (e3.keep k4.of) e4 t4 (by rw [List.length_append, List.length_take, List.length_drop]; show min _ _ + 1 + _ ≤ 1000; omega) (fun H5 r5 k5 t5 e5 => ?_)
    refine q H5 r5 (k13.trans (k4.trans k5)) t5 ?_
    have el : ds.set i.toNat r = ds.take i.toNat ++ [r] ++ ds.drop (i + 1).toNat := by
      rw [List.set_eq_take_append_cons_drop, if_pos (by omega), show (i + 1).toNat = i.toNat + 1 by omega, List.append_assoc]; rfl
    rw [el]; exact e5
abbrev sRNP : Stmt := topS 19
abbrev nRNP : List Str := ["house", "pipe"]
theorem scRNP : FnScope nRNP ["house", "pipe"] (defScope sRNP) := ⟨rfl, rfl, rfl, by decide +kernel, rfl, by decide +kernel, by decide +kernel⟩
def spRNP (C : Addr) : Sp := fun vs H Q E => ∃ (h xv : V) (n : Int) (ds : List PyData) (dp : PyData) (av a2 : List Addr), vs = [h, xv] ∧ Dt av H h (houseD n ds) ∧ Dt a2 H xv dp ∧
  (within dp 0 ((ds.length : Int) - 1) = false → ∀ d, H d = none → E (.ref C) (some d) (upd H d (.xd [("pipe", xv)]))) ∧ (within dp 0 ((ds.length : Int) - 1) = true → Q .non H)
theorem ok_rNP (h : Has K mg "refuse_no_pipe" sRNP) (B : Blt mg) (CW : Can P w K mg base "is_within" ["thing", "low", "high"] 2 spWithin) {CNoPipe : Addr} (ENoPipe : CanE P w K mg base "NoPipe" "pipe" CNoPipe) : CanX P w K mg base "refuse_no_pipe" ["house", "pipe"] 3 (spRNP CNoPipe) := by
  obtain ⟨f, fd, F, g⟩ := h
  refine ⟨f, fd, F.okX (k := 2) scRNP (fun vs H Q E h => ?_) (fun cdv A outer s H vs Q E hr h => ?_), g, F.kp, F.binds fun _ _ _ _ _ _ us hl => match us, hl with | [_, _], _ => rfl⟩
  · obtain ⟨h, xv, n, ds, dp, av, a2, rfl, _⟩ := h
    rfl
  · obtain ⟨h, xv, n, ds, dp, av, a2, rfl, dh, dv, qe, qn⟩ := h
    refine ⟨_, pss_one (ps_if (pt_not (pt_val (pe_can CW (hr.mono (by decide)) (by rfl) (pa_cons (pv 1) (pa_cons pe_int (pa_cons (pe_op op_sub (pe_callB call_len_seq (by rfl) B.len_ PySem.boot_len (pa_cons (pe_ix ix_tup (pv 0) pe_int (fun _ _ => rfl)) pa_nil)) pe_int) pa_nil)))))) (pss_one (ps_raiseE ENoPipe rfl (hr.mono (by decide)) (takes_of rfl rfl rfl rfl) (by rfl) (pa_cons (pv 1) pa_nil))) pss_nil), ?_⟩
    obtain ⟨ah, ap, xp, rfl, nah, eah, nap, eap, dxp⟩ := house_parts dh
    have lx := dxp.len
    refine ⟨xv, rfl, .ref ah, rfl, ah, _, 1, .ref ap, rfl, rfl, SqT.of eah, atI_nat (j := 1) rfl, ap, _, rfl, .inr (SqT.of eap), _, 1, rfl, rfl, xv, dp, a2, _, _, rfl, dv, _, rfl, ?_⟩
    rw [lx]
    refine ite2 (fun e => ?_) (fun e => ?_)
    · have e' : within dp 0 ((ds.length : Int) - 1) = false := by simpa using e
      exact ⟨xv, rfl, raise_fin (qe e')⟩
    · have e' : within dp 0 ((ds.length : Int) - 1) = true := by simpa using e
      exact qn e'
abbrev sRFR : Stmt := topS 20
abbrev nRFR : List Str := ["house"]
theorem scRFR : FnScope nRFR ["house"] (defScope sRFR) := ⟨rfl, rfl, rfl, by decide +kernel, rfl, by decide +kernel, by decide +kernel⟩
def spRFR (C : Addr) : Sp := fun vs H Q E => ∃ (h : V) (n : Int) (ds : List PyData) (av : List Addr), vs = [h] ∧ Dt av H h (houseD n ds) ∧
  (16 ≤ n → ∀ d, H d = none → E (.ref C) (some d) (upd H d (.xd [("what", .str "rooms")]))) ∧ (n < 16 → Q .non H)
theorem ok_rFR (h : Has K mg "refuse_full_rooms" sRFR) (cROOMS : ∃ t, mg "ROOMS" = some (.int 16 t)) {CFull : Addr} (EFull : CanE P w K mg base "Full" "what" CFull) : CanX P w K mg base "refuse_full_rooms" ["house"] 3 (spRFR CFull) := by
  obtain ⟨f, fd, F, g⟩ := h
  refine ⟨f, fd, F.okX (k := 2) scRFR (fun vs H Q E h => ?_) (fun cdv A outer s H vs Q E hr h => ?_), g, F.kp, F.binds fun _ _ _ _ _ _ us hl => match us, hl with | [_], _ => rfl⟩
  · obtain ⟨h, n, ds, av, rfl, _⟩ := h
    rfl
  · obtain ⟨h, n, ds, av, rfl, dh, qe, qn⟩ := h
    refine ⟨_, pss_one (ps_if (pt_cmpR op_ge (pe_ix ix_tup (pv 0) pe_int (fun _ _ => rfl)) (pe_glob (v := .int 16) rfl cROOMS.choose_spec ⟨_, rfl⟩) (nomark _)) (pss_one (ps_raiseE EFull rfl (hr.mono (by decide)) (takes_of rfl rfl rfl rfl) (by rfl) (pa_cons pe_str pa_nil))) pss_nil), ?_⟩
    obtain ⟨ah, ap, xp, rfl, nah, eah, nap, eap, dxp⟩ := house_parts dh
    refine ⟨.ref ah, rfl, ah, _, 0, .int n, rfl, rfl, SqT.of eah, atI_nat (j := 0) rfl, n, 16, rfl, rfl, _, rfl, ite2 (fun e => ?_) (fun e => ?_)⟩
    · exact raise_fin (qe (of_decide_eq_true e))
    · exact qn (by have : ¬ (16 ≤ n) := fun h => e (decide_eq_true h); omega)
end
end Rw

namespace Rw
open PySem PySem.Spec PyProof.Rows L2 TL
/-! ### repr of anything small, an empty dict too -/
structure Shw (d : PyData) : Prop where
  sh : d.showable = true
  dp : d.depth ≤ 60
  ln : d.shown.length ≤ 100000
  ly : d.canLay0 = true ∨ d = .dict []
theorem Sw.shw {k n : Nat} {d : PyData} (h : Sw k n d) (hk : k ≤ 60) (hn : n ≤ 100000) : Shw d := ⟨h.sh, Nat.le_trans h.dp hk, Nat.le_trans h.ln hn, .inl h.lay⟩
section
variable {X : Cx} {pins : List (Addr × Obj)} {σ : L2.St} {H : Hp} {s : Shared} {av : List Addr}
theorem no_dict_told (I : Inv X pins σ H s) {v : V} {u : Value} (h : Dt av H v (.dict [])) (r : RelV v u) : ∃ as, Reads s.heap u (.dict []) as ∧ sysModules ∉ as := by
  cases h with
  | dct na e =>
    cases r
    obtain ⟨_, nsm, vs, kv, o, es, ep, ho, ex, hd, _, pr, _⟩ := I.hok _ _ e
    cases kv
    have e0 : es.toList = [] := by
      cases hq : es.toList with
      | nil => rfl
      | cons y ys => rw [hq] at pr; cases pr
    refine ⟨_, .dict (kvs := []) ho ex.1 hd (as := []) (bs := []) (by rw [e0]; exact .nil) (by rw [e0]; exact .nil), fun q => ?_⟩
    simp only [List.append_nil, List.mem_cons, List.not_mem_nil, or_false] at q
    rw [← q] at nsm
    exact absurd nsm (by decide)
end
section
variable {X : Cx}
def rReprA : List V → Hp → VK → Prop := fun xs H Q => ∃ (v : V) (d : PyData) (av : List Addr), xs = [v] ∧ Dt av H v d ∧ Shw d ∧ Q (.str d.shown) H
theorem cr_reprA (hg : X.A.guards = some []) (hu : X.A.units + 70 < cLine) : CallR X (.builtin "repr") rReprA := by
  intro pins s σ H xs us Q I r h
  obtain ⟨v, d, av, rfl, hd, sw, q⟩ := h
  obtain ⟨u, rfl, ru⟩ := vals1 r
  have e1 := sw.dp
  have e2 := sw.ln
  have e3 := sw.sh
  have sz : (100000 : Nat) ≤ sizeLine := by decide
  have big : ∀ {a : Addr}, v = .ref a → wpAny (model X.prog X.w) X.A (call (.builtin "repr") [u]) (EP X pins σ Q) X.xe s := fun {a} ev => by
    subst ev
    rcases sw.ly with ly | rfl
    · obtain ⟨as, rd⟩ := Dp.reads I d _ _ (Dt.dp d _ hd ly) ru
      cases ru
      exact repr_of_reads' rd e3 (PyData.noDict_hsm (PyData.hasDict_of_canLay d ly)) hg (by omega) (fun _ _ e => e) (fun h' t tk k => ⟨.str d.shown, H, I.kept (t' := tk) k, ⟨t, rfl⟩, q⟩) (by omega)
    · obtain ⟨as, rd, na⟩ := no_dict_told I hd ru
      cases ru
      exact repr_of_reads' rd e3 (fun _ => na) hg (by omega) (fun _ _ e => e) (fun h' t tk k => ⟨.str _, H, I.kept (t' := tk) k, ⟨t, rfl⟩, q⟩) (by omega)
  cases hd with
  | non => cases ru; rw [PyData.shown_none] at q; exact PySem.P.repr_of_none ⟨.str _, H, I.tok _, ⟨_, rfl⟩, q⟩
  | bl b => cases ru; rw [PyData.shown_bool] at q; exact PySem.P.repr_of_bool ⟨.str _, H, I.tok _, ⟨_, rfl⟩, by cases b <;> exact q⟩
  | int i =>
    obtain ⟨t, rfl⟩ := ru
    rw [PyData.shown_int] at q
    exact PySem.P.repr_of_int (by simpa only [PyData.showable, decide_eq_true_eq] using e3) ⟨.str _, H, I.tok _, ⟨_, rfl⟩, q⟩
  | str x =>
    obtain ⟨t, rfl⟩ := ru
    rw [PyData.shown_str] at q e2
    exact PySem.P.repr_of_str ⟨.str _, H, I.tok _, ⟨_, rfl⟩, q⟩ (by omega)
  | lst _ _ _ => exact big rfl
  | tup _ _ _ => exact big rfl
  | dct _ _ => exact big rfl
end
theorem units70m {k : Nat} {A : Around} {h : Option Value} (r : Room k A) : (A.mark h).units + 70 < cLine := by have := r.un; show A.units + 70 < cLine; omega
end Rw

namespace Rw
open PySem PySem.Spec PyProof.Rows L2 TL
theorem fit_na {n : Int} {p : Pi} (ok : p.ok n) : ∀ k ∈ p.na, okK k := fun k m => by
  have h := ok.fit.nin k m
  have h2 := ok.fit.l2
  exact ⟨by omega, by omega, by omega, by omega⟩
theorem fit_fl {n : Int} {p : Pi} (ok : p.ok n) : ∀ k ∈ p.fl, 0 ≤ k.1 ∧ k.1 < 1000000000000000 ∧ (k.2 = 1 ∨ k.2 = -1) := fun k m => by
  have h := ok.fit.fin k m
  have h2 := ok.fit.l2
  exact ⟨h.1, by omega, h.2.2⟩
theorem sw_neg : Sw 0 16 (.int (-1)) := ⟨by simp only [PyData.canLay0], by simp only [PyData.showable]; decide, by simp only [PyData.depth]; omega, by decide +kernel⟩
theorem sw_prs {ks : List (Int × Int)} (hl : ks.length ≤ 3) (h : ∀ k ∈ ks, Sw 0 16 (.int k.1) ∧ Sw 0 16 (.int k.2)) : Sw 2 126 (.tuple (ks.map prD)) := by
  refine Sw.tup (k := 1) (n := 39) (m := 3) (fun d m => ?_) (by rw [List.length_map]; exact hl)
  obtain ⟨k, mk, rfl⟩ := List.mem_map.mp m
  refine Sw.tup (k := 0) (n := 16) (m := 2) (fun d m => ?_) (Nat.le_refl 2)
  rcases List.mem_cons.mp m with rfl | m
  · exact (h k mk).1
  · rw [List.mem_singleton.mp m]; exact (h k mk).2
theorem sw_pipe {n : Int} {p : Pi} (ok : p.ok n) (n16 : n ≤ 16) : Sw 3 643 p.dat := by
  have a1 := ok.x0
  have a2 := ok.x1
  have a3 := ok.y0
  have a4 := ok.y1
  have a5 := ok.fit.l1
  have a6 := ok.fit.l2
  refine Sw.tup (k := 2) (n := 126) (m := 5) (fun d m => ?_) (Nat.le_refl 5)
  rcases List.mem_cons.mp m with rfl | m
  · exact (Sw.int a1 (by omega)).mono (by omega) (by omega)
  rcases List.mem_cons.mp m with rfl | m
  · exact (Sw.int a3 (by omega)).mono (by omega) (by omega)
  rcases List.mem_cons.mp m with rfl | m
  · exact (Sw.int (by omega) (by omega)).mono (by omega) (by omega)
  rcases List.mem_cons.mp m with rfl | m
  · refine sw_prs ok.fit.nle fun k mk => ?_
    have h := fit_na ok k mk
    exact ⟨Sw.int h.1 h.2.1, Sw.int h.2.2.1 h.2.2.2⟩
  · rw [List.mem_singleton.mp m]
    refine sw_prs ok.fit.fle fun k mk => ?_
    have h := fit_fl ok k mk
    refine ⟨Sw.int h.1 h.2.1, ?_⟩
    rcases h.2.2 with e | e
    · rw [e]; exact Sw.int (by decide) (by decide)
    · rw [e]; exact sw_neg
theorem sw_house {n : Int} {ps : List Pi} (ok : okH n ps) : Sw 5 19363 (houseD n (ps.map Pi.dat)) := by
  have n1 := ok.n1
  have n16 := ok.n16
  have ln := ok.len
  refine Sw.tup (k := 4) (n := 9678) (m := 2) (fun d m => ?_) (Nat.le_refl 2)
  rcases List.mem_cons.mp m with rfl | m
  · exact (Sw.int (by omega) (by omega)).mono (by omega) (by omega)
  · rw [List.mem_singleton.mp m]
    refine Sw.tup (k := 3) (n := 643) (m := 15) (fun d m => ?_) (by rw [List.length_map]; omega)
    obtain ⟨p, mp, rfl⟩ := List.mem_map.mp m
    exact sw_pipe (ok.ok p mp) n16
theorem is_prs {m : Nat} {ks : List (Int × Int)} (hl : ks.length ≤ 3) : IS (m + 2) (.tuple (ks.map prD)) := by
  refine .tup (by rw [List.length_map]; omega) fun d md => ?_
  obtain ⟨k, mk, rfl⟩ := List.mem_map.mp md
  refine .tup (show 2 ≤ 1000 by decide) fun d m => ?_
  rcases List.mem_cons.mp m with rfl | m
  · exact .int _ _
  · rw [List.mem_singleton.mp m]; exact .int _ _
theorem is_house {n : Int} {ps : List Pi} (hl : ps.length ≤ 900) (ok : ∀ p ∈ ps, p.na.length ≤ 3 ∧ p.fl.length ≤ 3) : IS 5 (houseD n (ps.map Pi.dat)) := by
  refine .tup (show 2 ≤ 1000 by decide) fun d m => ?_
  rcases List.mem_cons.mp m with rfl | m
  · exact .int _ _
  · rw [List.mem_singleton.mp m]
    refine .tup (by rw [List.length_map]; omega) fun d m => ?_
    obtain ⟨p, mp, rfl⟩ := List.mem_map.mp m
    refine .tup (show 5 ≤ 1000 by decide) fun d m => ?_
    rcases List.mem_cons.mp m with rfl | m
    · exact .int _ _
    rcases List.mem_cons.mp m with rfl | m
    · exact .int _ _
    rcases List.mem_cons.mp m with rfl | m
    · exact .int _ _
    rcases List.mem_cons.mp m with rfl | m
    · exact is_prs (m := 0) (ok p mp).1
    · rw [List.mem_singleton.mp m]; exact is_prs (m := 0) (ok p mp).2
/-! ### a pipe made longer: a house still -/
theorem set_same {α β : Type} (f : α → β) {xs : List α} {k : Nat} {x y : α} (h : xs[k]? = some x) (e : f y = f x) : (xs.set k y).map f = xs.map f := by
  rw [List.map_set]
  apply List.ext_getElem?
  intro m
  by_cases z : m = k
  · subst z
    have hk : m < xs.length := (List.getElem?_eq_some_iff.mp h).1
    rw [List.getElem?_set_self (by rw [List.length_map]; exact hk), List.getElem?_map, h, e]; rfl
  · rw [List.getElem?_set_ne (Ne.symm z)]
theorem okH_long {n i j : Int} {ps : List Pi} (ok : okH n ps) (i0 : 0 ≤ i) (i1 : i < ps.length) (j0 : 0 ≤ j) (j1 : j ≤ 1000000000000 - (pr ps i).l) : okH n (setL ps i j) := by
  have hp := (pr_mem i0 i1).2
  have okp := ok.ok _ (pr_mem i0 i1).1
  refine ⟨ok.n1, ok.n16, by rw [setL_len]; exact ok.len, fun p m => ?_, ?_, ?_, ?_⟩
  · unfold setL at m
    rcases List.mem_or_eq_of_mem_set m with m | rfl
    · exact ok.ok p m
    · have f := okp.fit
      refine ⟨okp.x0, okp.x1, okp.y0, okp.y1, okp.xy, by have := f.l1; show 1 ≤ (pr ps i).l + j; omega, by show (pr ps i).l + j ≤ _; omega, f.nup, fun q mq => ?_, f.fup, fun q mq => ?_, f.nle, f.fle⟩
      · have := f.nin q mq; exact ⟨this.1, by show q.1 ≤ (pr ps i).l + j - 1; omega, this.2.2⟩
      · have := f.fin q mq; exact ⟨this.1, by show q.1 ≤ (pr ps i).l + j - 1; omega, this.2.2⟩
  · have e : edges (setL ps i j) = edges ps := by unfold edges setL; exact set_same (fun p : Pi => (p.x.toNat, p.y.toNat)) hp rfl
    rw [e]; exact ok.con
  · have e : (setL ps i j).map (fun p => p.na.length) = ps.map (fun p => p.na.length) := set_same (fun p : Pi => p.na.length) hp rfl
    rw [e]; exact ok.na
  · have e : (setL ps i j).map (fun p => p.fl.length) = ps.map (fun p => p.fl.length) := set_same (fun p : Pi => p.fl.length) hp rfl
    rw [e]; exact ok.fl
theorem okH.hk {n : Int} {ps : List Pi} (ok : okH n ps) : HouseOk n ps := ⟨ok.n1, ok.n16, by have := ok.len; omega, ok.ok⟩
theorem okH.tree {n : Int} {ps : List Pi} (ok : okH n ps) : ∃ d, Tm n ps d :=
  Rw.tree ok.n1 (by have := ok.len; omega) (fun p m => by have z := ok.ok p m; exact ⟨z.x0, by have := z.x1; omega, z.y0, by have := z.y1; omega, z.fit.l1⟩) ok.con
theorem fit_bare {l : Int} (h1 : 1 ≤ l) (h2 : l ≤ 1000000000000) : Fit l [] [] := ⟨h1, h2, List.Pairwise.nil, fun _ m => (nomatch m), List.Pairwise.nil, fun _ m => (nomatch m), Nat.zero_le _, Nat.zero_le _⟩
theorem sum_zero {α : Type} (f : α → Nat) : ∀ (xs : List α), (∀ x ∈ xs, f x = 0) → (xs.map f).sum = 0
  | [], _ => rfl
  | x :: xs, h => by rw [List.map_cons, List.sum_cons, h x List.mem_cons_self, sum_zero f xs fun y m => h y (List.mem_cons_of_mem _ m)]
end Rw

namespace Rw
open PySem PySem.Spec PyProof.Rows L2 TL
/-! ### pairs, sorted -/
def prL (p : Int × Int) : List Int := [p.1, p.2]
def sortP (ks : List (Int × Int)) : List (Int × Int) := ks.mergeSort fun a b => leI (prL a) (prL b)
theorem sortP_map (ks : List (Int × Int)) : (sortP ks).map prL = sortL (ks.map prL) := List.map_mergeSort (fun _ _ _ _ => rfl)
theorem prD_map (ks : List (Int × Int)) : ks.map prD = (ks.map prL).map tupI := by rw [List.map_map]; rfl
theorem sort_pairs {K : PySem.W.Frag} {av : List Addr} {G : Hp} {Ld : Addr} {us : List V} {ks : List (Int × Int)} {Q : VK} (eL : G Ld = some (.lst us)) (tr : Tr av G) (du : Dts av G us (ks.map prD)) (len : us.length ≤ 1000)
    (k : ∀ (G' : Hp) (N : Addr) (vs : List V), Keep [] G G' → Tr av G' → G' N = some (.lst vs) → Dts av G' vs ((sortP ks).map prD) → Q (.ref N) G') : rSortVI K [.ref Ld] G Q := by
  rw [prD_map] at du
  have lz : us.length = (ks.map prL).length := by have := du.len; rw [List.length_map] at this; exact this
  refine ⟨Ld, us.zip (ks.map prL), rfl, by rw [zip_fst lz]; exact SqL.of eL, ?_, fun b hb => ?_, by rw [List.length_zip]; omega, fun N nN => k _ N _ (Keep.new nN) tr.upd upd_same (Dts.keep ?_ (Keep.new nN))⟩
  · rw [zip_fst lz, zip_enc lz]
    exact Dts.dp _ _ du (lay_tups _)
  · obtain ⟨z, _, e⟩ := List.mem_map.mp (List.of_mem_zip hb).2
    rw [← e]; exact fun w => by cases w
  · rw [prD_map, sortP_map]
    exact dts_sort du
theorem sortP_perm (ks : List (Int × Int)) : (sortP ks).Perm ks := List.mergeSort_perm _ _
theorem sortP_rise {ks : List (Int × Int)} (h : ks.Pairwise fun a b => a.1 ≠ b.1) : ((sortP ks).map (·.1)).Pairwise (· < ·) := by
  have s : (sortP ks).Pairwise fun a b => leI (prL a) (prL b) = true := List.pairwise_mergeSort (le := fun a b => leI (prL a) (prL b)) (fun a b c => leI_trans (prL a) (prL b) (prL c)) (fun a b => leI_total (prL a) (prL b)) ks
  have d : (sortP ks).Pairwise fun a b => a.1 ≠ b.1 := (sortP_perm ks).symm.pairwise h (fun {a b} z => Ne.symm z)
  rw [List.pairwise_map]
  refine (s.and d).imp fun {a b} z => ?_
  obtain ⟨z1, z2⟩ := z
  unfold leI at z1
  have z3 : ¬ (prL b < prL a) := by simpa using z1
  have z4 : ¬ (b.1 < a.1) := fun w => z3 (by unfold prL; exact List.Lex.rel w)
  omega
/-! ### a house with a pipe halved -/
def nearP (ps : List Pi) (n i a : Int) : Pi := ⟨(pr ps i).x, n, a, (pr ps i).na.filter fun k => decide (k.1 < a), (pr ps i).fl.filter fun k => decide (k.1 < a)⟩
def farP (ps : List Pi) (n i a : Int) : Pi := ⟨(pr ps i).y, n, (pr ps i).l - a, sortP (((pr ps i).na.filter fun k => decide (a < k.1)).map fun k => ((pr ps i).l - k.1, k.2)), sortP (((pr ps i).fl.filter fun k => decide (a ≤ k.1)).map fun k => ((pr ps i).l - 1 - k.1, -k.2))⟩
def halfP (ps : List Pi) (n i a : Int) : List Pi := ps.set i.toNat (nearP ps n i a) ++ [farP ps n i a]
theorem half_len (ps : List Pi) (n i a : Int) : (halfP ps n i a).length = ps.length + 1 := by unfold halfP; rw [List.length_append, List.length_set]; rfl
theorem half_get {ps : List Pi} {n i a : Int} {k : Nat} {p : Pi} (h : (halfP ps n i a)[k]? = some p) : (k = ps.length ∧ p = farP ps n i a) ∨ (k = i.toNat ∧ p = nearP ps n i a ∧ k < ps.length) ∨ (k ≠ i.toNat ∧ ps[k]? = some p) := by
  unfold halfP at h
  rcases get_snoc h with ⟨h, _⟩ | ⟨h1, h2⟩
  · by_cases e : k = i.toNat
    · subst e
      have hk : i.toNat < ps.length := by have := (List.getElem?_eq_some_iff.mp h).1; rw [List.length_set] at this; exact this
      rw [List.getElem?_set_self hk] at h
      exact .inr (.inl ⟨rfl, (Option.some.inj h).symm, hk⟩)
    · rw [List.getElem?_set_ne (Ne.symm e)] at h
      exact .inr (.inr ⟨e, h⟩)
  · rw [List.length_set] at h1
    exact .inl ⟨h1, h2⟩
theorem half_of {ps : List Pi} {n i a : Int} (n0 : 0 ≤ n) (i0 : 0 ≤ i) (i1 : i < ps.length) (a0 : 1 ≤ a) (a1 : a ≤ (pr ps i).l - 1) : Half ps (halfP ps n i a) n i a := by
  have at1 : pr (halfP ps n i a) i = nearP ps n i a := by
    have z := pr_of (ps := halfP ps n i a) (j := i.toNat) (p := nearP ps n i a) (by unfold halfP; rw [List.getElem?_append_left (by rw [List.length_set]; omega), List.getElem?_set_self (by omega)])
    rw [show ((i.toNat : Nat) : Int) = i by omega] at z; exact z
  have at2 : pr (halfP ps n i a) (ps.length : Int) = farP ps n i a := pr_of (by unfold halfP; rw [List.getElem?_append_right (by rw [List.length_set]; omega), List.length_set, Nat.sub_self]; rfl)
  refine ⟨n0, i0, i1, a0, a1, half_len ps n i a, fun j k0 k1 ne => ?_, ?_, ?_, ?_, ?_, ?_, ?_⟩
  · have z := pr_of (ps := halfP ps n i a) (j := j.toNat) (p := pr ps j) (by unfold halfP; rw [List.getElem?_append_left (by rw [List.length_set]; omega), List.getElem?_set_ne (by omega)]; exact (pr_mem k0 k1).2)
    rw [show ((j.toNat : Nat) : Int) = j by omega] at z; exact z
  · rw [at1]; rfl
  · rw [at1]; rfl
  · rw [at1]; rfl
  · rw [at2]; rfl
  · rw [at2]; rfl
  · rw [at2]; rfl
theorem sum_set {α : Type} (f : α → Nat) : ∀ (xs : List α) (k : Nat) (x y : α), xs[k]? = some x → ((xs.set k y).map f).sum + f x = (xs.map f).sum + f y
  | [], _, _, _, h => by simp at h
  | z :: xs, 0, x, y, h => by
    have e : z = x := by simpa using h
    subst e
    simp only [List.set_cons_zero, List.map_cons, List.sum_cons]; omega
  | z :: xs, k + 1, x, y, h => by
    have ih := sum_set f xs k x y (by simpa using h)
    simp only [List.set_cons_succ, List.map_cons, List.sum_cons]; omega
theorem filter_two {α : Type} (p q : α → Bool) (h : ∀ x, ¬ (p x = true ∧ q x = true)) : ∀ xs : List α, (xs.filter p).length + (xs.filter q).length ≤ xs.length
  | [] => by simp
  | x :: xs => by
    have ih := filter_two p q h xs
    have hx := h x
    rw [List.filter_cons, List.filter_cons]
    cases e1 : p x <;> cases e2 : q x <;> simp [e1, e2] at * <;> omega
theorem okH_half {ps : List Pi} {n i a : Int} (ok : okH n ps) (hn : n < 16) (i0 : 0 ≤ i) (i1 : i < ps.length) (a0 : 1 ≤ a) (a1 : a ≤ (pr ps i).l - 1) : okH (n + 1) (halfP ps n i a) := by
  have n1 := ok.n1
  have hp := (pr_mem i0 i1).2
  have okp := ok.ok _ (pr_mem i0 i1).1
  have f := okp.fit
  have l2 := f.l2
  have x0 := okp.x0
  have x1 := okp.x1
  have y0 := okp.y0
  have y1 := okp.y1
  have pn : (pr ps i).na.Pairwise fun a b => a.1 < b.1 := by have := f.nup; rw [List.pairwise_map] at this; exact this
  have pf : (pr ps i).fl.Pairwise fun a b => a.1 < b.1 := by have := f.fup; rw [List.pairwise_map] at this; exact this
  have fitN : Fit a ((pr ps i).na.filter fun k => decide (k.1 < a)) ((pr ps i).fl.filter fun k => decide (k.1 < a)) := by
    refine ⟨a0, by omega, by rw [List.pairwise_map]; exact pn.filter _, fun k m => ?_, by rw [List.pairwise_map]; exact pf.filter _, fun k m => ?_, Nat.le_trans (List.length_filter_le _ _) f.nle, Nat.le_trans (List.length_filter_le _ _) f.fle⟩
    · obtain ⟨m1, m2⟩ := List.mem_filter.mp m
      have z := f.nin k m1
      have := of_decide_eq_true m2
      exact ⟨z.1, by omega, z.2.2⟩
    · obtain ⟨m1, m2⟩ := List.mem_filter.mp m
      have z := f.fin k m1
      have := of_decide_eq_true m2
      exact ⟨z.1, by omega, z.2.2⟩
  have fitF : Fit ((pr ps i).l - a) (farP ps n i a).na (farP ps n i a).fl := by
    refine ⟨by omega, by omega, sortP_rise ?_, fun k m => ?_, sortP_rise ?_, fun k m => ?_, ?_, ?_⟩
    · rw [List.pairwise_map]; exact (pn.filter _).imp fun {a b} z => by show (pr ps i).l - a.1 ≠ (pr ps i).l - b.1; omega
    · obtain ⟨q, mq, rfl⟩ := List.mem_map.mp ((sortP_perm _).mem_iff.mp m)
      obtain ⟨m1, m2⟩ := List.mem_filter.mp mq
      have z := f.nin q m1
      have := of_decide_eq_true m2
      exact ⟨by show 1 ≤ (pr ps i).l - q.1; omega, by show (pr ps i).l - q.1 ≤ _; omega, z.2.2⟩
    · rw [List.pairwise_map]; exact (pf.filter _).imp fun {a b} z => by show (pr ps i).l - 1 - a.1 ≠ (pr ps i).l - 1 - b.1; omega
    · obtain ⟨q, mq, rfl⟩ := List.mem_map.mp ((sortP_perm _).mem_iff.mp m)
      obtain ⟨m1, m2⟩ := List.mem_filter.mp mq
      have z := f.fin q m1
      have := of_decide_eq_true m2
      exact ⟨by show 0 ≤ (pr ps i).l - 1 - q.1; omega, by show (pr ps i).l - 1 - q.1 ≤ _; omega, by show -q.2 = 1 ∨ -q.2 = -1; omega⟩
    · show (sortP _).length ≤ 3
      rw [(sortP_perm _).length_eq, List.length_map]; exact Nat.le_trans (List.length_filter_le _ _) f.nle
    · show (sortP _).length ≤ 3
      rw [(sortP_perm _).length_eq, List.length_map]; exact Nat.le_trans (List.length_filter_le _ _) f.fle
  refine ⟨by omega, by omega, by rw [half_len]; have := ok.len; omega, fun p m => ?_, fun S hS b hb => ?_, ?_, ?_⟩
  · obtain ⟨k, hk, e⟩ := List.mem_iff_getElem.mp m
    rcases half_get (k := k) (p := p) (by rw [List.getElem?_eq_getElem hk, e]) with ⟨_, rfl⟩ | ⟨_, rfl, _⟩ | ⟨_, e'⟩
    · exact ⟨y0, by show (pr ps i).y ≤ n + 1 - 1; omega, by show 0 ≤ n; omega, by show n ≤ n + 1 - 1; omega, by show (pr ps i).y < n; omega, fitF⟩
    · exact ⟨x0, by show (pr ps i).x ≤ n + 1 - 1; omega, by show 0 ≤ n; omega, by show n ≤ n + 1 - 1; omega, by show (pr ps i).x < n; omega, fitN⟩
    · have z := ok.ok p (List.mem_of_getElem? e')
      exact ⟨z.x0, by have := z.x1; omega, z.y0, by have := z.y1; omega, z.xy, z.fit⟩
  · have mN : nearP ps n i a ∈ halfP ps n i a := by
      unfold halfP; exact List.mem_append_left _ (List.mem_of_getElem? (List.getElem?_set_self (by omega)))
    have mF : farP ps n i a ∈ halfP ps n i a := by unfold halfP; exact List.mem_append_right _ List.mem_cons_self
    have eN : S (pr ps i).x.toNat = S n.toNat := hS ((nearP ps n i a).x.toNat, (nearP ps n i a).y.toNat) (List.mem_map.mpr ⟨_, mN, rfl⟩)
    have eF : S (pr ps i).y.toNat = S n.toNat := hS ((farP ps n i a).x.toNat, (farP ps n i a).y.toNat) (List.mem_map.mpr ⟨_, mF, rfl⟩)
    have all := ok.con S (fun e me => by
      obtain ⟨p, mp, rfl⟩ := List.mem_map.mp me
      obtain ⟨k, hk, e⟩ := List.mem_iff_getElem.mp mp
      by_cases z : k = i.toNat
      · subst z
        have : p = pr ps i := by
          have e2 : ps[i.toNat]? = some p := by rw [List.getElem?_eq_getElem hk, e]
          rw [hp] at e2; exact (Option.some.inj e2).symm
        rw [this]; exact eN.trans eF.symm
      · exact hS (p.x.toNat, p.y.toNat) (List.mem_map.mpr ⟨p, by
          unfold halfP
          refine List.mem_append_left _ (List.mem_of_getElem? (i := k) ?_)
          rw [List.getElem?_set_ne (Ne.symm z), List.getElem?_eq_getElem hk, e], rfl⟩))
    have hb' : b < (n + 1).toNat := hb
    by_cases z : b = n.toNat
    · rw [z, ← eN, all _ (by omega)]
    · exact all b (by omega)
  · have s := sum_set (fun p : Pi => p.na.length) ps i.toNat _ (nearP ps n i a) hp
    have t := filter_two (fun k : Int × Int => decide (k.1 < a)) (fun k => decide (a < k.1)) (fun x h => by have h1 := of_decide_eq_true h.1; have h2 := of_decide_eq_true h.2; omega) (pr ps i).na
    have u : (farP ps n i a).na.length = ((pr ps i).na.filter fun k => decide (a < k.1)).length := by
      show (sortP _).length = _
      rw [(sortP_perm _).length_eq, List.length_map]
    have v : (nearP ps n i a).na.length = ((pr ps i).na.filter fun k => decide (k.1 < a)).length := rfl
    have := ok.na
    unfold halfP
    rw [List.map_append, List.sum_append]
    simp only [List.map_cons, List.map_nil, List.sum_cons, List.sum_nil]
    omega
  · have s := sum_set (fun p : Pi => p.fl.length) ps i.toNat _ (nearP ps n i a) hp
    have t := filter_two (fun k : Int × Int => decide (k.1 < a)) (fun k => decide (a ≤ k.1)) (fun x h => by have h1 := of_decide_eq_true h.1; have h2 := of_decide_eq_true h.2; omega) (pr ps i).fl
    have u : (farP ps n i a).fl.length = ((pr ps i).fl.filter fun k => decide (a ≤ k.1)).length := by
      show (sortP _).length = _
      rw [(sortP_perm _).length_eq, List.length_map]
    have v : (nearP ps n i a).fl.length = ((pr ps i).fl.filter fun k => decide (k.1 < a)).length := rfl
    have := ok.fl
    unfold halfP
    rw [List.map_append, List.sum_append]
    simp only [List.map_cons, List.map_nil, List.sum_cons, List.sum_nil]
    omega
theorem units10 {k : Nat} {A : Around} (r : Room k A) : A.units + 10 < cLine := by have := r.un; omega
end Rw

namespace Rw
open PySem PySem.Spec PyProof.Rows L2 TL
section
variable {P : Program} {w : World} {K : PySem.W.Frag} {mg : Str → Option Value} {base : Heap}
abbrev sRNH : Stmt := topS 18
abbrev nRNH : List Str := ["house", "pipe", "at"]
theorem scRNH : FnScope nRNH ["house", "pipe", "at"] (defScope sRNH) := ⟨rfl, rfl, rfl, by decide +kernel, rfl, by decide +kernel, by decide +kernel⟩
def spRNH (C1 C2 C3 : Addr) : Sp := fun vs H Q E => ∃ (h xv yv : V) (n : Int) (ps : List Pi) (dp da : PyData) (av a2 : List Addr), vs = [h, xv, yv] ∧ Dt av H h (houseD n (ps.map Pi.dat)) ∧ Dt a2 H xv dp ∧ Dt a2 H yv da ∧
  (inPs ps dp = false → ∀ d, H d = none → E (.ref C1) (some d) (upd H d (.xd [("pipe", xv)]))) ∧
  (∀ i, dp = .int i → 0 ≤ i → i < ps.length → within da 1 ((pr ps i).l - 1) = false → ∀ d, H d = none → E (.ref C2) (some d) (upd H d (.xd [("at", yv)]))) ∧
  (∀ i a, dp = .int i → 0 ≤ i → i < ps.length → da = .int a → 1 ≤ a → a ≤ (pr ps i).l - 1 → (16 ≤ n → ∀ d, H d = none → E (.ref C3) (some d) (upd H d (.xd [("what", .str "rooms")]))) ∧ (n < 16 → Q .non H))
theorem ok_rNH (h : Has K mg "refuse_no_half" sRNH) (CW : Can P w K mg base "is_within" ["thing", "low", "high"] 2 spWithin) {CNoAt : Addr} (ENoAt : CanE P w K mg base "NoAt" "at" CNoAt) {CNoPipe CFull : Addr} (CP : CanX P w K mg base "refuse_no_pipe" ["house", "pipe"] 3 (spRNP CNoPipe)) (CF : CanX P w K mg base "refuse_full_rooms" ["house"] 3 (spRFR CFull)) : CanX P w K mg base "refuse_no_half" ["house", "pipe", "at"] 4 (spRNH CNoPipe CNoAt CFull) := by
  obtain ⟨f, fd, F, g⟩ := h
  refine ⟨f, fd, F.okX (k := 3) scRNH (fun vs H Q E h => ?_) (fun cdv A outer s H vs Q E hr h => ?_), g, F.kp, F.binds fun _ _ _ _ _ _ us hl => match us, hl with | [_, _, _], _ => rfl⟩
  · obtain ⟨h, xv, yv, n, ps, dp, da, av, a2, rfl, _⟩ := h
    rfl
  · obtain ⟨h, xv, yv, n, ps, dp, da, av, a2, rfl, dh, dv, dw, q1, q2, q3⟩ := h
    refine ⟨_, pss_cons (ps_expr (pe_canX CP (hr.mono (by decide)) (takes_of rfl rfl rfl rfl) (by rfl) (pa_cons (pv 0) (pa_cons (pv 1) pa_nil))))
      (pss_cons (ps_if (pt_not (pt_val (pe_can CW (hr.mono (by decide)) (by rfl) (pa_cons (pv 2) (pa_cons pe_int (pa_cons (pe_op op_sub (pe_ix ix_tup (pe_ix ix_tup (pe_ix ix_tup (pv 0) pe_int (fun _ _ => rfl)) (pv 1) (fun _ _ => rfl)) pe_int (fun _ _ => rfl)) pe_int) pa_nil)))))) (pss_one (ps_raiseE ENoAt rfl (hr.mono (by decide)) (takes_of rfl rfl rfl rfl) (by rfl) (pa_cons (pv 2) pa_nil))) pss_nil)
      (pss_one (ps_expr (pe_canX CF (hr.mono (by decide)) (takes_of rfl rfl rfl rfl) (by rfl) (pa_cons (pv 0) pa_nil))))), ?_⟩
    obtain ⟨ah, ap, xp, rfl, nah, eah, nap, eap, dxp⟩ := house_parts dh
    refine ⟨.ref ah, rfl, xv, rfl, .ref ah, xv, n, _, dp, av, a2, rfl, dh, dv, ?_, ?_⟩
    · rw [List.length_map]; exact q1
    rw [List.length_map]
    intro hin
    obtain ⟨i, rfl, i0, i1⟩ := within_int hin
    cases dv
    obtain ⟨p, pa, T1, T2, mp, hp, epa, eP⟩ := pi_at dxp i0 (by omega : i < ps.length)
    have ep : p = pr ps i := by
      have z := (pr_mem i0 (by omega : i < ps.length)).2
      rw [z] at hp; exact (Option.some.inj hp).symm
    subst ep
    refine ⟨yv, rfl, .ref ah, rfl, ah, _, 1, .ref ap, rfl, rfl, SqT.of eah, atI_nat (j := 1) rfl, .int i, rfl, ap, _, i, .ref pa, rfl, rfl, SqT.of eap, epa, pa, _, 2, _, rfl, rfl, SqT.of eP, atI_nat (j := 2) rfl, _, 1, rfl, rfl, yv, da, a2, _, _, rfl, dw, _, rfl, ite2 (fun e => ?_) (fun e => ?_)⟩
    · have e' : within da 1 ((pr ps i).l - 1) = false := by simpa using e
      exact ⟨yv, rfl, raise_fin (q2 i rfl i0 (by omega) e')⟩
    · have e' : within da 1 ((pr ps i).l - 1) = true := by simpa using e
      obtain ⟨a, rfl, a0, a1⟩ := within_int e'
      obtain ⟨z1, z2⟩ := q3 i a rfl i0 (by omega) rfl a0 a1
      exact ⟨.ref ah, rfl, .ref ah, n, _, av, rfl, dh, z1, z2⟩
abbrev sPH : Stmt := topS 21
abbrev nPH : List Str := ["house", "pipe", "at", "place"]
theorem scPH : FnScope nPH ["house", "pipe", "at", "place"] (defScope sPH) := ⟨rfl, rfl, rfl, by decide +kernel, rfl, by decide +kernel, by decide +kernel⟩
def spPH (C1 C2 C3 : Addr) : Sp := fun vs H Q E => ∃ (h xv yv zv : V) (n : Int) (ps : List Pi) (dp da : PyData) (z : Pl) (av a2 : List Addr), vs = [h, xv, yv, zv] ∧ Dt av H h (houseD n (ps.map Pi.dat)) ∧ Dt a2 H xv dp ∧ Dt a2 H yv da ∧ Dt av H zv (tupI z) ∧ okP n ps z ∧ Tr av H ∧
  (inPs ps dp = false → ∀ d, H d = none → E (.ref C1) (some d) (upd H d (.xd [("pipe", xv)]))) ∧
  (∀ i, dp = .int i → 0 ≤ i → i < ps.length → within da 1 ((pr ps i).l - 1) = false → ∀ d, H d = none → E (.ref C2) (some d) (upd H d (.xd [("at", yv)]))) ∧
  (∀ i a, dp = .int i → 0 ≤ i → i < ps.length → da = .int a → 1 ≤ a → a ≤ (pr ps i).l - 1 → (16 ≤ n → ∀ d, H d = none → E (.ref C3) (some d) (upd H d (.xd [("what", .str "rooms")]))) ∧ (n < 16 → ∀ (H' : Hp) (v : V), Keep [] H H' → Tr av H' → Dt av H' v (tupI (hv ps n i a z)) → Q v H'))
theorem ok_pH (h : Has K mg "place_halved" sPH) (B : Blt mg) {CNoPipe CNoAt CFull : Addr} (CR : CanX P w K mg base "refuse_no_half" ["house", "pipe", "at"] 4 (spRNH CNoPipe CNoAt CFull)) : CanX P w K mg base "place_halved" ["house", "pipe", "at", "place"] 5 (spPH CNoPipe CNoAt CFull) := by
  obtain ⟨f, fd, F, g⟩ := h
  refine ⟨f, fd, F.okX (k := 4) scPH (fun vs H Q E h => ?_) (fun cdv A outer s H vs Q E hr h => ?_), g, F.kp, F.binds fun _ _ _ _ _ _ us hl => match us, hl with | [_, _, _, _], _ => rfl⟩
  · obtain ⟨h, xv, yv, zv, n, ps, dp, da, z, av, a2, rfl, _⟩ := h
    rfl
  · obtain ⟨h, xv, yv, zv, n, ps, dp, da, z, av, a2, rfl, dh, dv, dw, dz, okz, tr, q1, q2, q3⟩ := h
    refine ⟨_, pss_cons (ps_expr (pe_canX CR (hr.mono (by decide)) (takes_of rfl rfl rfl rfl) (by rfl) (pa_cons (pv 0) (pa_cons (pv 1) (pa_cons (pv 2) pa_nil)))))
      (pss_cons (ps_if (PW.pt (pw_or (pt_cmpR op_eq (pe_callB call_len_seq (by rfl) B.len_ PySem.boot_len (pa_cons (pv 3) pa_nil)) pe_int (nomark _)) (pw_or (pt_cmpR op_ne (pe_ix ix_tup (pv 3) pe_int (fun _ _ => rfl)) (pv 1) (nomark _)) (pw_or1 (pt_cmpR op_lt (pe_ix ix_tup (pv 3) pe_int (fun _ _ => rfl)) (pv 2) (nomark _)))))) (pss_one (ps_ret (pv 3))) pss_nil)
      (pss_cons (ps_if (pt_cmpR op_eq (pe_ix ix_tup (pv 3) pe_int (fun _ _ => rfl)) (pv 2) (nomark _)) (pss_one (ps_ret (pe_tup (pa_cons (pe_ix ix_tup (pv 0) pe_int (fun _ _ => rfl)) pa_nil)))) pss_nil)
      (pss_one (ps_ret (pe_tup (pa_cons (pe_callB call_len_seq (by rfl) B.len_ PySem.boot_len (pa_cons (pe_ix ix_tup (pv 0) pe_int (fun _ _ => rfl)) pa_nil)) (pa_cons (pe_op op_sub (pe_ix ix_tup (pe_ix ix_tup (pe_ix ix_tup (pv 0) pe_int (fun _ _ => rfl)) (pv 1) (fun _ _ => rfl)) pe_int (fun _ _ => rfl)) (pe_ix ix_tup (pv 3) pe_int (fun _ _ => rfl))) pa_nil))))))), ?_⟩
    obtain ⟨ah, ap, xp, rfl, nah, eah, nap, eap, dxp⟩ := house_parts dh
    refine ⟨.ref ah, rfl, xv, rfl, yv, rfl, .ref ah, xv, yv, n, ps, dp, da, av, a2, rfl, dh, dv, dw, q1, q2, fun i a e1 i0 i1 e2 a0 a1 => ⟨(q3 i a e1 i0 i1 e2 a0 a1).1, fun hn => ?_⟩⟩
    have q := (q3 i a e1 i0 i1 e2 a0 a1).2 hn
    subst e1 e2
    cases dv; cases dw
    obtain ⟨b, rfl, nb, eb⟩ := tupI_at dz
    rcases ok_cases okz with ⟨r, rfl, r0, r1⟩ | ⟨j, c, rfl, k0, k1, c0, c1⟩
    · refine ⟨.ref b, rfl, b, _, rfl, .inr (SqT.of eb), rfl, _, rfl, ite2 (fun _ => ?_) (fun e => absurd rfl e)⟩
      exact ⟨.ref b, rfl, q H (.ref b) (Keep.refl _ _) tr dz⟩
    refine ⟨.ref b, rfl, b, _, rfl, .inr (SqT.of eb), rfl, _, rfl, ite2 (fun e => absurd (show ((2 : Nat) : Int) = 1 from V.int.inj (of_decide_eq_true e)) (by decide)) (fun _ => ?_)⟩
    refine ⟨.ref b, rfl, b, _, 0, .int j, rfl, rfl, SqT.of eb, atI_nat (j := 0) rfl, .int i, rfl, rfl, _, rfl, ?_⟩
    by_cases ej : j = i
    · subst ej
      refine iteNS rfl ?_
      refine ⟨.ref b, rfl, b, _, 1, .int c, rfl, rfl, SqT.of eb, atI_nat (j := 1) rfl, .int a, rfl, c, a, rfl, rfl, _, rfl, ite2 (fun e => ?_) (fun e => ?_)⟩
      · have hc : c < a := of_decide_eq_true e
        refine ⟨.ref b, rfl, q H (.ref b) (Keep.refl _ _) tr ?_⟩
        have z : hv ps n j a [j, c] = [j, c] := (if_pos rfl).trans (if_pos hc)
        rw [z]; exact dz
      have hc : ¬ c < a := fun z => e (decide_eq_true z)
      refine ⟨.ref b, rfl, b, _, 1, .int c, rfl, rfl, SqT.of eb, atI_nat (j := 1) rfl, .int a, rfl, rfl, _, rfl, ite2 (fun e => ?_) (fun e => ?_)⟩
      · have hca : c = a := V.int.inj (of_decide_eq_true e)
        refine ⟨.ref ah, rfl, ah, _, 0, .int n, rfl, rfl, SqT.of eah, atI_nat (j := 0) rfl, show 1 ≤ sizeLine by decide, fun r nr => ?_⟩
        obtain ⟨k1', t1, f1⟩ := tup_facts tr (.cons (.int n) .nil) nr
        refine q _ (.ref r) k1' t1 ?_
        have z : hv ps n j a [j, c] = [n] := (if_pos rfl).trans ((if_neg hc).trans (if_pos hca))
        rw [z]; exact f1
      have hca : c ≠ a := fun z => e (decide_eq_true (by rw [z]))
      obtain ⟨p, pa, T1, T2, mp, hp, epa, eP⟩ := pi_at dxp i0 i1
      have ep : p = pr ps j := by
        have z := (pr_mem i0 i1).2
        rw [z] at hp; exact (Option.some.inj hp).symm
      subst ep
      have lx : xp.length = ps.length := by rw [dxp.len, List.length_map]
      refine ⟨.ref ah, rfl, ah, _, 1, .ref ap, rfl, rfl, SqT.of eah, atI_nat (j := 1) rfl, ap, _, rfl, .inr (SqT.of eap), .ref ah, rfl, ah, _, 1, .ref ap, rfl, rfl, SqT.of eah, atI_nat (j := 1) rfl, .int j, rfl, ap, _, j, .ref pa, rfl, rfl, SqT.of eap, epa, pa, _, 2, _, rfl, rfl, SqT.of eP, atI_nat (j := 2) rfl, .ref b, rfl, b, _, 1, .int c, rfl, rfl, SqT.of eb, atI_nat (j := 1) rfl, _, _, rfl, rfl, show 2 ≤ sizeLine by decide, fun r nr => ?_⟩
      obtain ⟨k1', t1, f1⟩ := tup_facts tr (.cons (.int (xp.length : Int)) (.cons (.int ((pr ps j).l - c)) .nil)) nr
      refine q _ (.ref r) k1' t1 ?_
      have z : hv ps n j a [j, c] = [(ps.length : Int), (pr ps j).l - c] := (if_pos rfl).trans ((if_neg hc).trans (if_neg hca))
      rw [z, ← lx]; exact f1
    · refine ite2 (fun _ => ?_) (fun e => ?_)
      · refine ⟨.ref b, rfl, q H (.ref b) (Keep.refl _ _) tr ?_⟩
        have z : hv ps n i a [j, c] = [j, c] := if_neg ej
        rw [z]; exact dz
      · exfalso
        refine e ?_
        have : decide (V.int j = V.int i) = false := decide_eq_false fun z => ej (V.int.inj z)
        rw [this]; rfl
abbrev sHv : Stmt := topS 16
abbrev nHv : List Str := ["house", "pipe", "at", "rooms", "pipes", "one", "other", "length", "narrows", "flaps", "spot", "width", "way", "near", "beyond"]
theorem scHv : FnScope nHv ["house", "pipe", "at"] (defScope sHv) := ⟨rfl, rfl, rfl, by decide +kernel, rfl, by decide +kernel, by decide +kernel⟩
def spHv (C1 C2 C3 : Addr) : Sp := fun vs H Q E => ∃ (h xv yv : V) (n : Int) (ps : List Pi) (dp da : PyData) (av a2 : List Addr), vs = [h, xv, yv] ∧ Dt av H h (houseD n (ps.map Pi.dat)) ∧ HouseOk n ps ∧ Dt a2 H xv dp ∧ Dt a2 H yv da ∧ Tr av H ∧
  (inPs ps dp = false → ∀ d, H d = none → E (.ref C1) (some d) (upd H d (.xd [("pipe", xv)]))) ∧
  (∀ i, dp = .int i → 0 ≤ i → i < ps.length → within da 1 ((pr ps i).l - 1) = false → ∀ d, H d = none → E (.ref C2) (some d) (upd H d (.xd [("at", yv)]))) ∧
  (∀ i a, dp = .int i → 0 ≤ i → i < ps.length → da = .int a → 1 ≤ a → a ≤ (pr ps i).l - 1 → (16 ≤ n → ∀ d, H d = none → E (.ref C3) (some d) (upd H d (.xd [("what", .str "rooms")]))) ∧ (n < 16 → ∀ (H' : Hp) (v : Addr), Keep [] H H' → Tr av H' → Dt av H' (.ref v) (houseD (n + 1) ((halfP ps n i a).map Pi.dat)) → Q (.ref v) H'))
theorem ok_hv (h : Has K mg "halved" sHv) (B : Blt mg) (CP : Can P w K mg base "with_pipe" ["pipes", "number", "row"] 1 spWP) {CNoPipe CNoAt CFull : Addr} (CR : CanX P w K mg base "refuse_no_half" ["house", "pipe", "at"] 4 (spRNH CNoPipe CNoAt CFull)) : CanX P w K mg base "halved" ["house", "pipe", "at"] 5 (spHv CNoPipe CNoAt CFull) := by
  obtain ⟨f, fd, F, g⟩ := h
  refine ⟨f, fd, F.okX (k := 4) scHv (fun vs H Q E h => ?_) (fun cdv A outer s H vs Q E hr h => ?_), g, F.kp, F.binds fun _ _ _ _ _ _ us hl => match us, hl with | [_, _, _], _ => rfl⟩
  · obtain ⟨h, xv, yv, n, ps, dp, da, av, a2, rfl, _⟩ := h
    rfl
  · obtain ⟨h, xv, yv, n, ps, dp, da, av, a2, rfl, dh, hk, dv, dw, tr, q1, q2, q3⟩ := h
    refine ⟨_, pss_cons (ps_expr (pe_canX CR (hr.mono (by decide)) (takes_of rfl rfl rfl rfl) (by rfl) (pa_cons (pv 0) (pa_cons (pv 1) (pa_cons (pv 2) pa_nil)))))
      (pss_cons (ps_asg (pv 0) (pg_tup (by rfl) (pgs_cons (pg_name (i := 3) scHv.nd rfl (by first | exact Or.inl rfl | exact Or.inr rfl)) (pgs_cons (pg_name (i := 4) scHv.nd rfl (by first | exact Or.inl rfl | exact Or.inr rfl)) pgs_nil))))
      (pss_cons (ps_asg (pe_ix ix_tup (pv 4) (pv 1) (fun _ _ => rfl)) (pg_tup (by rfl) (pgs_cons (pg_name (i := 5) scHv.nd rfl (by first | exact Or.inl rfl | exact Or.inr rfl)) (pgs_cons (pg_name (i := 6) scHv.nd rfl (by first | exact Or.inl rfl | exact Or.inr rfl)) (pgs_cons (pg_name (i := 7) scHv.nd rfl (by first | exact Or.inl rfl | exact Or.inr rfl)) (pgs_cons (pg_name (i := 8) scHv.nd rfl (by first | exact Or.inl rfl | exact Or.inr rfl)) (pgs_cons (pg_name (i := 9) scHv.nd rfl (by first | exact Or.inl rfl | exact Or.inr rfl)) pgs_nil)))))))
      (pss_cons (ps_set (i := 13) scHv.nd rfl (by first | exact Or.inl rfl | exact Or.inr rfl) (pe_tup (pa_cons (pv 5) (pa_cons (pv 3) (pa_cons (pv 2) (pa_cons (pe_callTy call_tuple_of (by rfl) B.tuple_ boot_tuple (pa_cons (pe_lc (own := [("spot", 10), ("width", 11)]) rfl scHv.nd (pi_tup (pv 8)) (blkOk_by (N := nHv) (sc := defScope sHv) (by decide +kernel)) (fun _ _ _ _ _ => (pg_tupK (K := K) (n := 2) rfl (by rfl) (pgs_cons (pg_name (i := 10) scHv.nd rfl (by first | exact Or.inl rfl | exact Or.inr rfl)) (pgs_cons (pg_name (i := 11) scHv.nd rfl (by first | exact Or.inl rfl | exact Or.inr rfl)) pgs_nil)))) (fun _ _ _ _ _ => pts_one (pt_cmpR op_lt (pv 10) (pv 2) (nomark _))) (fun _ _ _ _ _ => (pe_tup (pa_cons (pv 10) (pa_cons (pv 11) pa_nil))))) pa_nil)) (pa_cons (pe_callTy call_tuple_of (by rfl) B.tuple_ boot_tuple (pa_cons (pe_lc (own := [("spot", 10), ("way", 12)]) rfl scHv.nd (pi_tup (pv 9)) (blkOk_by (N := nHv) (sc := defScope sHv) (by decide +kernel)) (fun _ _ _ _ _ => (pg_tupK (K := K) (n := 2) rfl (by rfl) (pgs_cons (pg_name (i := 10) scHv.nd rfl (by first | exact Or.inl rfl | exact Or.inr rfl)) (pgs_cons (pg_name (i := 12) scHv.nd rfl (by first | exact Or.inl rfl | exact Or.inr rfl)) pgs_nil)))) (fun _ _ _ _ _ => pts_one (pt_cmpR op_lt (pv 10) (pv 2) (nomark _))) (fun _ _ _ _ _ => (pe_tup (pa_cons (pv 10) (pa_cons (pv 12) pa_nil))))) pa_nil)) pa_nil)))))))
      (pss_cons (ps_set (i := 14) scHv.nd rfl (by first | exact Or.inl rfl | exact Or.inr rfl) (pe_tup (pa_cons (pv 6) (pa_cons (pv 3) (pa_cons (pe_op op_sub (pv 7) (pv 2)) (pa_cons (pe_callTy call_tuple_of (by rfl) B.tuple_ boot_tuple (pa_cons (pe_callB (cr_sortVI (units10 hr)) (by rfl) B.sorted_ boot_sorted (pa_cons (pe_lc (own := [("spot", 10), ("width", 11)]) rfl scHv.nd (pi_tup (pv 8)) (blkOk_by (N := nHv) (sc := defScope sHv) (by decide +kernel)) (fun _ _ _ _ _ => (pg_tupK (K := K) (n := 2) rfl (by rfl) (pgs_cons (pg_name (i := 10) scHv.nd rfl (by first | exact Or.inl rfl | exact Or.inr rfl)) (pgs_cons (pg_name (i := 11) scHv.nd rfl (by first | exact Or.inl rfl | exact Or.inr rfl)) pgs_nil)))) (fun _ _ _ _ _ => pts_one (pt_cmpR op_gt (pv 10) (pv 2) (nomark _))) (fun _ _ _ _ _ => (pe_tup (pa_cons (pe_op op_sub (pv 7) (pv 10)) (pa_cons (pv 11) pa_nil))))) pa_nil)) pa_nil)) (pa_cons (pe_callTy call_tuple_of (by rfl) B.tuple_ boot_tuple (pa_cons (pe_callB (cr_sortVI (units10 hr)) (by rfl) B.sorted_ boot_sorted (pa_cons (pe_lc (own := [("spot", 10), ("way", 12)]) rfl scHv.nd (pi_tup (pv 9)) (blkOk_by (N := nHv) (sc := defScope sHv) (by decide +kernel)) (fun _ _ _ _ _ => (pg_tupK (K := K) (n := 2) rfl (by rfl) (pgs_cons (pg_name (i := 10) scHv.nd rfl (by first | exact Or.inl rfl | exact Or.inr rfl)) (pgs_cons (pg_name (i := 12) scHv.nd rfl (by first | exact Or.inl rfl | exact Or.inr rfl)) pgs_nil)))) (fun _ _ _ _ _ => pts_one (pt_cmpR op_ge (pv 10) (pv 2) (nomark _))) (fun _ _ _ _ _ => (pe_tup (pa_cons (pe_op op_sub (pe_op op_sub (pv 7) pe_int) (pv 10)) (pa_cons (pe_un un_neg (pv 12)) pa_nil))))) pa_nil)) pa_nil)) pa_nil)))))))
      (pss_one (ps_ret (pe_tup (pa_cons (pe_op op_add (pv 3) pe_int) (pa_cons (pe_op op_catA (pe_can CP (hr.mono (by decide)) (by rfl) (pa_cons (pv 4) (pa_cons (pv 1) (pa_cons (pv 13) pa_nil)))) (pe_tup (pa_cons (pv 14) pa_nil))) pa_nil))))))))), ?_⟩
    obtain ⟨ah, ap, xp, rfl, nah, eah, nap, eap, dxp⟩ := house_parts dh
    refine ⟨.ref ah, rfl, xv, rfl, yv, rfl, .ref ah, xv, yv, n, ps, dp, da, av, a2, rfl, dh, dv, dw, q1, q2, fun i a e1 i0 i1 e2 a0 a1 => ⟨(q3 i a e1 i0 i1 e2 a0 a1).1, fun hn => ?_⟩⟩
    have q := (q3 i a e1 i0 i1 e2 a0 a1).2 hn
    subst e1 e2
    cases dv; cases dw
    refine ⟨.ref ah, rfl, ah, _, rfl, SqT.of eah, rfl, .int n, _, rfl, .ref ap, [], rfl, rfl, ?_⟩
    obtain ⟨p, pa, T1, T2, mp, hp, epa, eP⟩ := pi_at dxp i0 i1
    have ep : p = pr ps i := by
      have z := (pr_mem i0 i1).2
      rw [z] at hp; exact (Option.some.inj hp).symm
    subst ep
    obtain ⟨v, ev, dpi⟩ := dxp.get i.toNat (d := (pr ps i).dat) (by rw [List.getElem?_map, (pr_mem i0 i1).2]; rfl)
    have ev2 : v = .ref pa := by
      have z := atI_of i0 ev
      rw [epa] at z; exact (Option.some.inj z).symm
    subst ev2
    obtain ⟨d4, d5⟩ := pipe_tails dpi eP
    obtain ⟨_, u1, eu1, _, eT1, dT1⟩ := tup_at d4
    cases eu1
    obtain ⟨_, u2, eu2, _, eT2, dT2⟩ := tup_at d5
    cases eu2
    have lT1 : u1.length = (pr ps i).na.length := by rw [dT1.len, List.length_map]
    have lT2 : u2.length = (pr ps i).fl.length := by rw [dT2.len, List.length_map]
    have okp := hk.ok _ (pr_mem i0 i1).1
    have n3 := okp.fit.nle
    have f3 := okp.fit.fle
    refine ⟨.ref ap, rfl, .int i, rfl, ap, _, i, .ref pa, rfl, rfl, SqT.of eap, epa, pa, _, rfl, SqT.of eP, rfl, _, _, rfl, _, _, rfl, _, _, rfl, _, _, rfl, _, [], rfl, rfl, ?_⟩
    have idm : ∀ l : List (Int × Int), l.map (fun k : Int × Int => (k.1, k.2)) = l := fun l => by
      conv => rhs; rw [← List.map_id l]
      exact List.map_congr_left fun _ _ => rfl
    generalize hσ : List.set _ 9 _ = σ0
    obtain rfl : σ0 = [some (.ref ah), some (.int i), some (.int a), some (.int n), some (.ref ap), some (.int (pr ps i).x), some (.int (pr ps i).y), some (.int (pr ps i).l), some (.ref T1), some (.ref T2), none, none, none, none, none] := by rw [← hσ]; rfl
    clear hσ
    refine ⟨.int (pr ps i).x, rfl, .int n, rfl, .int a, rfl, .ref T1, rfl, T1, rfl, ⟨_, SqT.of eT1⟩, fun W nW => ?_⟩
    refine lc_tup (K := K) (a := T1) (fun j G => Keep [] H G ∧ Tr (W :: av) G ∧ ∃ ws : List V, G W = some (.lst ws) ∧ ws.length ≤ j ∧ Dts (W :: av) G ws (((((pr ps i).na.take j).filter (fun k : Int × Int => decide (k.1 < a))).map (fun k : Int × Int => (k.1, k.2))).map prD))
      ⟨Keep.new nW, (tr.upd).cons upd_same, [], upd_same, Nat.le_refl _, .nil⟩ (fun j G _ p => SqT.of (p.1 T1 _ eT1 List.not_mem_nil)) (fun j y G hy pp => ?_) (fun G pp => ?_)
    · obtain ⟨kG, tG, ws, eW, lw, dw⟩ := pp
      obtain ⟨dd, gd, dy⟩ := dT1.getv j hy
      rw [List.getElem?_map] at gd
      obtain ⟨k, gk, rfl⟩ := Option.map_eq_some_iff.mp gd
      obtain ⟨b, ys, rfl, _, eb, db⟩ := tup_at (show Dt av H y (.tuple [.int k.1, .int k.2]) from dy)
      have hys : ys = [.int k.1, .int k.2] := Dts.unints (ns := [k.1, k.2]) db
      subst hys
      have hj : j < (pr ps i).na.length := (List.getElem?_eq_some_iff.mp gk).1
      have tk : (pr ps i).na.take (j + 1) = (pr ps i).na.take j ++ [k] := by rw [List.take_add_one, gk]; rfl
      refine ⟨b, _, rfl, SqT.of (kG b _ eb List.not_mem_nil), rfl, _, _, rfl, _, [], rfl, rfl, rfl, .int k.1, rfl, .int a, rfl, k.1, a, rfl, rfl, _, rfl, ?_⟩
      by_cases c : k.1 < a
      · rw [show decide (k.1 < a) = true from decide_eq_true c]
        refine iteT ⟨.int k.1, rfl, .int k.2, rfl, show 2 ≤ sizeLine by decide, fun r nr => ?_⟩
        obtain ⟨k1, t1, f1⟩ := tup_facts tG (ds := [.int k.1, .int k.2]) (.cons (.int _) (.cons (.int _) .nil)) nr
        refine ⟨ws, k1 W _ eW List.not_mem_nil, Nat.lt_of_lt_of_le (by omega : ws.length < 1000) (small1000 (by omega)), (kG.trans k1).upd nW, t1.upd, ws ++ [.ref r], upd_same, by rw [List.length_append]; show ws.length + 1 ≤ _; omega, ?_⟩
        rw [tk, List.filter_append, show [k].filter (fun k : Int × Int => decide (k.1 < a)) = [k] by simp [c], List.map_append, List.map_append]
        exact lst_step dw k1.of f1
      · rw [show decide (k.1 < a) = false from decide_eq_false c]
        refine iteF ⟨kG, tG, ws, eW, by omega, ?_⟩
        rw [tk, List.filter_append, show [k].filter (fun k : Int × Int => decide (k.1 < a)) = [] by simp [c], List.append_nil]
        exact dw
    obtain ⟨kG, tG, ws, eW, lw, dw⟩ := pp
    rw [lT1, List.take_length] at dw
    have tav : Tr av G := fun a m => tG a (List.mem_cons_of_mem _ m)
    refine ⟨W, ws, rfl, .inl ⟨SqL.of eW, fun R nR => ?_⟩⟩
    have k1 : Keep [] H (upd G R (.tup ws)) := kG.trans (Keep.new nR)
    have t1 : Tr av (upd G R (.tup ws)) := tav.upd
    have e1 : Dt av (upd G R (.tup ws)) (.ref R) (.tuple ((((pr ps i).na.filter (fun k : Int × Int => decide (k.1 < a))).map (fun k : Int × Int => (k.1, k.2))).map prD)) := .tup (tav.not nR) upd_same ((dw.less fun a m => List.mem_cons_of_mem _ m).keep (Keep.new nR))
    generalize upd G R (.tup ws) = G1 at k1 t1 e1 ⊢
    clear kG tG eW dw tav lw
    rw [idm] at e1
    have eT2a := k1 T2 _ eT2 List.not_mem_nil
    have dT2a := dT2.keep k1.of
    refine ⟨.ref T2, rfl, T2, rfl, ⟨_, SqT.of eT2a⟩, fun W nW => ?_⟩
    refine lc_tup (K := K) (a := T2) (fun j G => Keep [] G1 G ∧ Tr (W :: av) G ∧ ∃ ws : List V, G W = some (.lst ws) ∧ ws.length ≤ j ∧ Dts (W :: av) G ws (((((pr ps i).fl.take j).filter (fun k : Int × Int => decide (k.1 < a))).map (fun k : Int × Int => (k.1, k.2))).map prD))
      ⟨Keep.new nW, (t1.upd).cons upd_same, [], upd_same, Nat.le_refl _, .nil⟩ (fun j G _ p => SqT.of (p.1 T2 _ eT2a List.not_mem_nil)) (fun j y G hy pp => ?_) (fun G pp => ?_)
    · obtain ⟨kG, tG, ws, eW, lw, dw⟩ := pp
      obtain ⟨dd, gd, dy⟩ := dT2a.getv j hy
      rw [List.getElem?_map] at gd
      obtain ⟨k, gk, rfl⟩ := Option.map_eq_some_iff.mp gd
      obtain ⟨b, ys, rfl, _, eb, db⟩ := tup_at (show Dt av G1 y (.tuple [.int k.1, .int k.2]) from dy)
      have hys : ys = [.int k.1, .int k.2] := Dts.unints (ns := [k.1, k.2]) db
      subst hys
      have hj : j < (pr ps i).fl.length := (List.getElem?_eq_some_iff.mp gk).1
      have tk : (pr ps i).fl.take (j + 1) = (pr ps i).fl.take j ++ [k] := by rw [List.take_add_one, gk]; rfl
      refine ⟨b, _, rfl, SqT.of (kG b _ eb List.not_mem_nil), rfl, _, _, rfl, _, [], rfl, rfl, rfl, .int k.1, rfl, .int a, rfl, k.1, a, rfl, rfl, _, rfl, ?_⟩
      by_cases c : k.1 < a
      · rw [show decide (k.1 < a) = true from decide_eq_true c]
        refine iteT ⟨.int k.1, rfl, .int k.2, rfl, show 2 ≤ sizeLine by decide, fun r nr => ?_⟩
        obtain ⟨k1, t1, f1⟩ := tup_facts tG (ds := [.int k.1, .int k.2]) (.cons (.int _) (.cons (.int _) .nil)) nr
        refine ⟨ws, k1 W _ eW List.not_mem_nil, Nat.lt_of_lt_of_le (by omega : ws.length < 1000) (small1000 (by omega)), (kG.trans k1).upd nW, t1.upd, ws ++ [.ref r], upd_same, by rw [List.length_append]; show ws.length + 1 ≤ _; omega, ?_⟩
        rw [tk, List.filter_append, show [k].filter (fun k : Int × Int => decide (k.1 < a)) = [k] by simp [c], List.map_append, List.map_append]
        exact lst_step dw k1.of f1
      · rw [show decide (k.1 < a) = false from decide_eq_false c]
        refine iteF ⟨kG, tG, ws, eW, by omega, ?_⟩
        rw [tk, List.filter_append, show [k].filter (fun k : Int × Int => decide (k.1 < a)) = [] by simp [c], List.append_nil]
        exact dw
    obtain ⟨kG, tG, ws, eW, lw, dw⟩ := pp
    rw [lT2, List.take_length] at dw
    have tav : Tr av G := fun a m => tG a (List.mem_cons_of_mem _ m)
    refine ⟨W, ws, rfl, .inl ⟨SqL.of eW, fun R nR => ?_⟩⟩
    have k2 : Keep [] G1 (upd G R (.tup ws)) := kG.trans (Keep.new nR)
    have t2 : Tr av (upd G R (.tup ws)) := tav.upd
    have e2 : Dt av (upd G R (.tup ws)) (.ref R) (.tuple ((((pr ps i).fl.filter (fun k : Int × Int => decide (k.1 < a))).map (fun k : Int × Int => (k.1, k.2))).map prD)) := .tup (tav.not nR) upd_same ((dw.less fun a m => List.mem_cons_of_mem _ m).keep (Keep.new nR))
    generalize upd G R (.tup ws) = G2 at k2 t2 e2 ⊢
    clear kG tG eW dw tav lw
    rw [idm] at e2
    refine ⟨show 5 ≤ sizeLine by decide, fun r1 nr1 => ?_⟩
    obtain ⟨q5, t5, f5⟩ := tup_facts t2 (ds := [.int (pr ps i).x, .int n, .int a, .tuple (((pr ps i).na.filter (fun k : Int × Int => decide (k.1 < a))).map prD), .tuple (((pr ps i).fl.filter (fun k : Int × Int => decide (k.1 < a))).map prD)]) (.cons (.int _) (.cons (.int _) (.cons (.int _) (.cons (e1.keep k2.of) (.cons e2 .nil))))) nr1
    generalize upd _ r1 (.tup _) = G5 at q5 t5 f5 ⊢
    have k05 : Keep [] H G5 := k1.trans (k2.trans q5)
    have eT1b := k05 T1 _ eT1 List.not_mem_nil
    have eT2b := k05 T2 _ eT2 List.not_mem_nil
    have dT1b := dT1.keep k05.of
    have dT2b := dT2.keep k05.of
    refine ⟨.int (pr ps i).y, rfl, .int n, rfl, .int (pr ps i).l, rfl, .int a, rfl, _, _, rfl, rfl, .ref T1, rfl, T1, rfl, ⟨_, SqT.of eT1b⟩, fun W nW => ?_⟩
    generalize hσ : (List.set _ 13 _ : L2.St) = σ0
    obtain rfl : σ0 = [some (.ref ah), some (.int i), some (.int a), some (.int n), some (.ref ap), some (.int (pr ps i).x), some (.int (pr ps i).y), some (.int (pr ps i).l), some (.ref T1), some (.ref T2), none, none, none, some (.ref r1), none] := by rw [← hσ]; rfl
    clear hσ
    refine lc_tup (K := K) (a := T1) (fun j G => Keep [] G5 G ∧ Tr (W :: av) G ∧ ∃ ws : List V, G W = some (.lst ws) ∧ ws.length ≤ j ∧ Dts (W :: av) G ws (((((pr ps i).na.take j).filter (fun k : Int × Int => decide (a < k.1))).map (fun k : Int × Int => ((pr ps i).l - k.1, k.2))).map prD))
      ⟨Keep.new nW, (t5.upd).cons upd_same, [], upd_same, Nat.le_refl _, .nil⟩ (fun j G _ p => SqT.of (p.1 T1 _ eT1b List.not_mem_nil)) (fun j y G hy pp => ?_) (fun G pp => ?_)
    · obtain ⟨kG, tG, ws, eW, lw, dw⟩ := pp
      obtain ⟨dd, gd, dy⟩ := dT1b.getv j hy
      rw [List.getElem?_map] at gd
      obtain ⟨k, gk, rfl⟩ := Option.map_eq_some_iff.mp gd
      obtain ⟨b, ys, rfl, _, eb, db⟩ := tup_at (show Dt av G5 y (.tuple [.int k.1, .int k.2]) from dy)
      have hys : ys = [.int k.1, .int k.2] := Dts.unints (ns := [k.1, k.2]) db
      subst hys
      have hj : j < (pr ps i).na.length := (List.getElem?_eq_some_iff.mp gk).1
      have tk : (pr ps i).na.take (j + 1) = (pr ps i).na.take j ++ [k] := by rw [List.take_add_one, gk]; rfl
      refine ⟨b, _, rfl, SqT.of (kG b _ eb List.not_mem_nil), rfl, _, _, rfl, _, [], rfl, rfl, rfl, .int k.1, rfl, .int a, rfl, k.1, a, rfl, rfl, _, rfl, ?_⟩
      by_cases c : a < k.1
      · rw [show decide (a < k.1) = true from decide_eq_true c]
        refine iteT ⟨.int (pr ps i).l, rfl, .int k.1, rfl, _, _, rfl, rfl, .int k.2, rfl, show 2 ≤ sizeLine by decide, fun r nr => ?_⟩
        obtain ⟨k1, t1, f1⟩ := tup_facts tG (ds := [.int ((pr ps i).l - k.1), .int k.2]) (.cons (.int _) (.cons (.int _) .nil)) nr
        refine ⟨ws, k1 W _ eW List.not_mem_nil, Nat.lt_of_lt_of_le (by omega : ws.length < 1000) (small1000 (by omega)), (kG.trans k1).upd nW, t1.upd, ws ++ [.ref r], upd_same, by rw [List.length_append]; show ws.length + 1 ≤ _; omega, ?_⟩
        rw [tk, List.filter_append, show [k].filter (fun k : Int × Int => decide (a < k.1)) = [k] by simp [c], List.map_append, List.map_append]
        exact lst_step dw k1.of f1
      · rw [show decide (a < k.1) = false from decide_eq_false c]
        refine iteF ⟨kG, tG, ws, eW, by omega, ?_⟩
        rw [tk, List.filter_append, show [k].filter (fun k : Int × Int => decide (a < k.1)) = [] by simp [c], List.append_nil]
        exact dw
    obtain ⟨kG, tG, ws, eW, lw, dw⟩ := pp
    rw [lT1, List.take_length] at dw
    have tav : Tr av G := fun a m => tG a (List.mem_cons_of_mem _ m)
    dsimp only [tNil]
    refine sort_pairs eW tav (dw.less fun a m => List.mem_cons_of_mem _ m) (by omega) (fun G' N vs' kN tN eN dN => ?_)
    refine ⟨N, vs', rfl, .inl ⟨SqL.of eN, fun R nR => ?_⟩⟩
    have k3 : Keep [] G5 (upd G' R (.tup vs')) := kG.trans (kN.trans (Keep.new nR))
    have t3 : Tr av (upd G' R (.tup vs')) := tN.upd
    have e3 : Dt av (upd G' R (.tup vs')) (.ref R) (.tuple ((sortP (((pr ps i).na.filter (fun k : Int × Int => decide (a < k.1))).map (fun k : Int × Int => ((pr ps i).l - k.1, k.2)))).map prD)) := .tup (tN.not nR) upd_same (dN.keep (Keep.new nR))
    generalize upd G' R (.tup vs') = G3 at k3 t3 e3 ⊢
    clear kG tG eW dw tav lw kN tN eN dN
    refine ⟨.ref T2, rfl, T2, rfl, ⟨_, SqT.of (k3 T2 _ eT2b List.not_mem_nil)⟩, fun W nW => ?_⟩
    have eT2c := k3 T2 _ eT2b List.not_mem_nil
    have dT2c := dT2b.keep k3.of
    refine lc_tup (K := K) (a := T2) (fun j G => Keep [] G3 G ∧ Tr (W :: av) G ∧ ∃ ws : List V, G W = some (.lst ws) ∧ ws.length ≤ j ∧ Dts (W :: av) G ws (((((pr ps i).fl.take j).filter (fun k : Int × Int => decide (a ≤ k.1))).map (fun k : Int × Int => ((pr ps i).l - 1 - k.1, -k.2))).map prD))
      ⟨Keep.new nW, (t3.upd).cons upd_same, [], upd_same, Nat.le_refl _, .nil⟩ (fun j G _ p => SqT.of (p.1 T2 _ eT2c List.not_mem_nil)) (fun j y G hy pp => ?_) (fun G pp => ?_)
    · obtain ⟨kG, tG, ws, eW, lw, dw⟩ := pp
      obtain ⟨dd, gd, dy⟩ := dT2c.getv j hy
      rw [List.getElem?_map] at gd
      obtain ⟨k, gk, rfl⟩ := Option.map_eq_some_iff.mp gd
      obtain ⟨b, ys, rfl, _, eb, db⟩ := tup_at (show Dt av G3 y (.tuple [.int k.1, .int k.2]) from dy)
      have hys : ys = [.int k.1, .int k.2] := Dts.unints (ns := [k.1, k.2]) db
      subst hys
      have hj : j < (pr ps i).fl.length := (List.getElem?_eq_some_iff.mp gk).1
      have tk : (pr ps i).fl.take (j + 1) = (pr ps i).fl.take j ++ [k] := by rw [List.take_add_one, gk]; rfl
      refine ⟨b, _, rfl, SqT.of (kG b _ eb List.not_mem_nil), rfl, _, _, rfl, _, [], rfl, rfl, rfl, .int k.1, rfl, .int a, rfl, k.1, a, rfl, rfl, _, rfl, ?_⟩
      by_cases c : a ≤ k.1
      · rw [show decide (a ≤ k.1) = true from decide_eq_true c]
        refine iteT ⟨.int (pr ps i).l, rfl, _, 1, rfl, rfl, .int k.1, rfl, _, _, rfl, rfl, .int k.2, rfl, _, rfl, show 2 ≤ sizeLine by decide, fun r nr => ?_⟩
        obtain ⟨k1, t1, f1⟩ := tup_facts tG (ds := [.int ((pr ps i).l - 1 - k.1), .int (-k.2)]) (.cons (.int _) (.cons (.int _) .nil)) nr
        refine ⟨ws, k1 W _ eW List.not_mem_nil, Nat.lt_of_lt_of_le (by omega : ws.length < 1000) (small1000 (by omega)), (kG.trans k1).upd nW, t1.upd, ws ++ [.ref r], upd_same, by rw [List.length_append]; show ws.length + 1 ≤ _; omega, ?_⟩
        rw [tk, List.filter_append, show [k].filter (fun k : Int × Int => decide (a ≤ k.1)) = [k] by simp [c], List.map_append, List.map_append]
        exact lst_step dw k1.of f1
      · rw [show decide (a ≤ k.1) = false from decide_eq_false c]
        refine iteF ⟨kG, tG, ws, eW, by omega, ?_⟩
        rw [tk, List.filter_append, show [k].filter (fun k : Int × Int => decide (a ≤ k.1)) = [] by simp [c], List.append_nil]
        exact dw
    obtain ⟨kG, tG, ws, eW, lw, dw⟩ := pp
    rw [lT2, List.take_length] at dw
    have tav : Tr av G := fun a m => tG a (List.mem_cons_of_mem _ m)
    dsimp only [tNil]
    refine sort_pairs eW tav (dw.less fun a m => List.mem_cons_of_mem _ m) (by omega) (fun G' N vs' kN tN eN dN => ?_)
    refine ⟨N, vs', rfl, .inl ⟨SqL.of eN, fun R nR => ?_⟩⟩
    have k4 : Keep [] G3 (upd G' R (.tup vs')) := kG.trans (kN.trans (Keep.new nR))
    have t4 : Tr av (upd G' R (.tup vs')) := tN.upd
    have e4 : Dt av (upd G' R (.tup vs')) (.ref R) (.tuple ((sortP (((pr ps i).fl.filter (fun k : Int × Int => decide (a ≤ k.1))).map (fun k : Int × Int => ((pr ps i).l - 1 - k.1, -k.2)))).map prD)) := .tup (tN.not nR) upd_same (dN.keep (Keep.new nR))
    generalize upd G' R (.tup vs') = G4 at k4 t4 e4 ⊢
    clear kG tG eW dw tav lw kN tN eN dN
    refine ⟨show 5 ≤ sizeLine by decide, fun r2 nr2 => ?_⟩
    obtain ⟨q6, t6, f6⟩ := tup_facts t4 (ds := [.int (pr ps i).y, .int n, .int ((pr ps i).l - a), .tuple ((sortP (((pr ps i).na.filter (fun k : Int × Int => decide (a < k.1))).map (fun k : Int × Int => ((pr ps i).l - k.1, k.2)))).map prD), .tuple ((sortP (((pr ps i).fl.filter (fun k : Int × Int => decide (a ≤ k.1))).map (fun k : Int × Int => ((pr ps i).l - 1 - k.1, -k.2)))).map prD)]) (.cons (.int _) (.cons (.int _) (.cons (.int _) (.cons (e3.keep k4.of) (.cons e4 .nil))))) nr2
    generalize upd _ r2 (.tup _) = G6 at q6 t6 f6 ⊢
    have k06 : Keep [] G5 G6 := k3.trans (k4.trans q6)
    have kH6 : Keep [] H G6 := (k1.trans (k2.trans q5)).trans k06
    have dxp6 : Dt av G6 (.ref ap) (.tuple (ps.map Pi.dat)) := .tup nap (kH6 ap _ eap List.not_mem_nil) (dxp.keep kH6.of)
    have l16 := hk.len
    have n16 := hk.n2
    refine ⟨.int n, rfl, _, 1, rfl, rfl, .ref ap, rfl, .int i, rfl, .ref r1, rfl, .ref ap, .ref r1, i, _, _, av, rfl, dxp6, i0, by rw [List.length_map]; omega, by rw [List.length_map]; omega, f5.keep k06.of, t6, fun H7 r7 k7 t7 e7 => ?_⟩
    refine ⟨.ref r2, rfl, show 1 ≤ sizeLine by decide, fun r8 nr8 => ?_⟩
    obtain ⟨q8, t8, f8⟩ := tup_facts t7 (.cons (f6.keep k7.of) .nil) nr8
    generalize upd _ r8 (.tup _) = G8 at q8 t8 f8 ⊢
    refine cat_data (e7.keep q8.of) f8 t8 (by rw [List.length_set, List.length_map]; show _ + 1 ≤ 1000; omega) (fun H9 r9 k9 t9 e9 => ?_)
    refine ⟨show 2 ≤ sizeLine by decide, fun r10 nr10 => ?_⟩
    obtain ⟨q10, t10, f10⟩ := tup_facts t9 (.cons (.int (n + 1)) (.cons e9 .nil)) nr10
    refine q _ r10 (kH6.trans (k7.trans (q8.trans (k9.trans q10)))) t10 ?_
    have el : (halfP ps n i a).map Pi.dat = (ps.map Pi.dat).set i.toNat (PyData.tuple [.int (pr ps i).x, .int n, .int a, .tuple (((pr ps i).na.filter (fun k : Int × Int => decide (k.1 < a))).map prD), .tuple (((pr ps i).fl.filter (fun k : Int × Int => decide (k.1 < a))).map prD)]) ++ [PyData.tuple [.int (pr ps i).y, .int n, .int ((pr ps i).l - a), .tuple ((sortP (((pr ps i).na.filter (fun k : Int × Int => decide (a < k.1))).map (fun k : Int × Int => ((pr ps i).l - k.1, k.2)))).map prD), .tuple ((sortP (((pr ps i).fl.filter (fun k : Int × Int => decide (a ≤ k.1))).map (fun k : Int × Int => ((pr ps i).l - 1 - k.1, -k.2)))).map prD)]] := by
      unfold halfP
      rw [List.map_append, List.map_set]; rfl
    unfold houseD
    rw [el]; exact f10
end
end Rw

namespace Rw
open PySem PySem.Spec PyProof.Rows L2 TL
theorem lst_facts {av : List Addr} {J : Hp} {xs : List V} {ds : List PyData} {p : Addr} (tr : Tr av J) (dx : Dts av J xs ds) (np : J p = none) : Keep [] J (upd J p (.lst xs)) ∧ Tr av (upd J p (.lst xs)) ∧ Dt av (upd J p (.lst xs)) (.ref p) (.list ds) :=
  ⟨Keep.new np, tr.upd, .lst (tr.not np) upd_same (dx.keep (Keep.new np))⟩
theorem dct_facts {av : List Addr} {J : Hp} {p : Addr} (tr : Tr av J) (np : J p = none) : Keep [] J (upd J p (.dK [])) ∧ Tr av (upd J p (.dK [])) ∧ Dt av (upd J p (.dK [])) (.ref p) (.dict []) :=
  ⟨Keep.new np, tr.upd, .dct (tr.not np) upd_same⟩
theorem Tr.k0 {av : List Addr} {H H' : Hp} (t : Tr av H) (k : Keep [] H H') : Tr av H' := fun a m => by
  obtain ⟨o, e⟩ := t a m
  exact ⟨o, k a o e List.not_mem_nil⟩
/-! ### what is due: words -/
def toI : PyData → Int
  | .int i => i
  | _ => 0
def saidD (w : Str) (x : Str) : PyData := .list [.str w, .str x, .bool false]
def toldD (d : PyData) : PyData := .list [.str "told", d]
theorem is_said (w x : Str) : IS 6 (saidD w x) := .lst (show 3 ≤ 1000 by decide) fun d m => by
  simp only [List.mem_cons, List.not_mem_nil, or_false] at m
  rcases m with rfl | rfl | rfl
  · exact .str _ _
  · exact .str _ _
  · exact .bool _ _
theorem is_toldD {d : PyData} (h : IS 5 d) : IS 6 (toldD d) := .lst (show 2 ≤ 1000 by decide) fun e m => by
  simp only [List.mem_cons, List.not_mem_nil, or_false] at m
  rcases m with rfl | rfl
  · exact .str _ _
  · exact h
theorem is_tupI {m : Nat} {ns : List Int} (h : ns.length ≤ 1000) : IS (m + 1) (tupI ns) := .tup (by rw [List.length_map]; exact h) fun d md => by
  obtain ⟨i, _, rfl⟩ := List.mem_map.mp md
  exact .int _ _
theorem Deck.tr {H : Hp} {D C R : Addr} {b : Int} (x : Deck H D C R b) : Tr [D, R] H := by
  obtain ⟨⟨oD, eD⟩, _, ⟨oR, eR⟩⟩ := x.at
  intro z m
  rcases List.mem_cons.mp m with m | m
  · rw [m]; exact ⟨_, eD⟩
  · rw [List.mem_singleton.mp m]; exact ⟨_, eR⟩
theorem shw_int {i : Int} (h0 : 0 ≤ i) (h1 : i ≤ 1000000000001) : Shw (.int i) := (Sw.int h0 (by omega)).shw (by decide) (by decide)
theorem said_at {av : List Addr} {H : Hp} {a : Addr} {w x : Str} (h : Dt av H (.ref a) (saidD w x)) : H a = some (.lst [.str w, .str x, .bl false]) := by
  unfold saidD at h
  cases h with
  | lst n e s =>
    cases s with
    | cons h1 s => cases h1; cases s with
      | cons h2 s => cases h2; cases s with
        | cons h3 s => cases h3; cases s; exact e
theorem told_at {av : List Addr} {H : Hp} {a : Addr} {d : PyData} (h : Dt av H (.ref a) (toldD d)) : ∃ v, H a = some (.lst [.str "told", v]) ∧ Dt av H v d ∧ a ∉ av := by
  unfold toldD at h
  cases h with
  | lst n e s =>
    cases s with
    | cons h1 s => cases h1; cases s with
      | cons h2 s => cases s; exact ⟨_, e, h2, n⟩
@[elab_as_elim] theorem gen1 {α : Type} {P : α → Prop} (a : α) (h : ∀ x, x = a → P x) : P a := h a rfl
end Rw

namespace Rw
open PySem PySem.Spec PyProof.Rows L2 TL
/-! ### what is due of a house halved -/
def hTD (n : Int) (ps : List Pi) (dp da : PyData) (zo : Option Pl) : PyData :=
  if inPs ps dp = false then saidD "pipe" dp.shown
  else if within da 1 ((pr ps (toI dp)).l - 1) = false then saidD "at" da.shown
  else if 16 ≤ n then saidD "full" "rooms"
  else match zo with
    | none => toldD (houseD (n + 1) ((halfP ps n (toI dp) (toI da)).map Pi.dat))
    | some z => toldD (tupI (hv ps n (toI dp) (toI da) z))
structure Told7 (K : PySem.W.Frag) (c1 c2 c3 c4 c5 c6 : Addr) : Prop where
  m11 : PySem.W.exmOne K (.ref c1) (.ref c1) = some true
  m21 : PySem.W.exmOne K (.ref c2) (.ref c1) = some false
  m22 : PySem.W.exmOne K (.ref c2) (.ref c2) = some true
  m31 : PySem.W.exmOne K (.ref c3) (.ref c1) = some false
  m32 : PySem.W.exmOne K (.ref c3) (.ref c2) = some false
  m33 : PySem.W.exmOne K (.ref c3) (.ref c3) = some true
  k1 : PySem.W.kitAny K (.ref c1) [.ref c2, .ref c3, .ref c4, .ref c5] = some false
  k2 : PySem.W.kitAny K (.ref c2) [.ref c3, .ref c4, .ref c5] = some false
  k3 : PySem.W.kitAny K (.ref c3) [.ref c4, .ref c5] = some false
  k4 : PySem.W.kitOne K (.ref c3) (.ref c6) = some true
theorem htd1 {n : Int} {ps : List Pi} {dp da : PyData} {zo : Option Pl} (h : inPs ps dp = false) : hTD n ps dp da zo = saidD "pipe" dp.shown := if_pos h
theorem in_of {ps : List Pi} {i : Int} (i0 : 0 ≤ i) (i1 : i < ps.length) : inPs ps (.int i) = true := int_within.mpr ⟨i0, by omega⟩
theorem htd2 {n i : Int} {ps : List Pi} {da : PyData} {zo : Option Pl} (i0 : 0 ≤ i) (i1 : i < ps.length) (h : within da 1 ((pr ps i).l - 1) = false) : hTD n ps (.int i) da zo = saidD "at" da.shown := by
  unfold hTD
  rw [if_neg (by rw [in_of i0 i1]; exact fun z => (nomatch z)), if_pos (show within da 1 ((pr ps (toI (.int i))).l - 1) = false from h)]
theorem htd3 {n i a : Int} {ps : List Pi} {zo : Option Pl} (i0 : 0 ≤ i) (i1 : i < ps.length) (a0 : 1 ≤ a) (a1 : a ≤ (pr ps i).l - 1) (hn : 16 ≤ n) : hTD n ps (.int i) (.int a) zo = saidD "full" "rooms" := by
  unfold hTD
  rw [if_neg (by rw [in_of i0 i1]; exact fun z => (nomatch z)), if_neg (by rw [show within (.int a) 1 ((pr ps (toI (.int i))).l - 1) = true from int_within.mpr ⟨a0, a1⟩]; exact fun z => (nomatch z)), if_pos hn]
theorem htd4 {n i a : Int} {ps : List Pi} (i0 : 0 ≤ i) (i1 : i < ps.length) (a0 : 1 ≤ a) (a1 : a ≤ (pr ps i).l - 1) (hn : n < 16) : hTD n ps (.int i) (.int a) none = toldD (houseD (n + 1) ((halfP ps n i a).map Pi.dat)) := by
  unfold hTD
  rw [if_neg (by rw [in_of i0 i1]; exact fun z => (nomatch z)), if_neg (by rw [show within (.int a) 1 ((pr ps (toI (.int i))).l - 1) = true from int_within.mpr ⟨a0, a1⟩]; exact fun z => (nomatch z)), if_neg (by omega)]; rfl
theorem htd5 {n i a : Int} {ps : List Pi} {z : Pl} (i0 : 0 ≤ i) (i1 : i < ps.length) (a0 : 1 ≤ a) (a1 : a ≤ (pr ps i).l - 1) (hn : n < 16) : hTD n ps (.int i) (.int a) (some z) = toldD (tupI (hv ps n i a z)) := by
  unfold hTD
  rw [if_neg (by rw [in_of i0 i1]; exact fun z => (nomatch z)), if_neg (by rw [show within (.int a) 1 ((pr ps (toI (.int i))).l - 1) = true from int_within.mpr ⟨a0, a1⟩]; exact fun z => (nomatch z)), if_neg (by omega)]; rfl
/-! ### odd things -/
def odd7 : List PyData := [.none, .bool true, .bool false, .int (-1), .int 0, .int 1, .int (10 ^ 39), .str "", .str "0", .tuple [], .list [], .dict [], .tuple [.int 0], .list [.int 0], .tuple [.tuple []], .tuple [.int 0, .int 0, .int 0], .tuple [.int 0, .int 1, .int 2, .tuple [], .tuple []]]
theorem odd7_shw : ∀ d ∈ odd7, Shw d := by
  intro d m
  simp only [odd7, List.mem_cons, List.not_mem_nil, or_false] at m
  rcases m with rfl | rfl | rfl | rfl | rfl | rfl | rfl | rfl | rfl | rfl | rfl | rfl | rfl | rfl | rfl | rfl | rfl <;> exact ⟨by decide +kernel, by decide +kernel, by decide +kernel, by first | exact .inr rfl | exact .inl (by decide +kernel)⟩
def zoOk (n : Int) (ps : List Pi) (av : List Addr) (H : Hp) (zv : V) (zo : Option Pl) : Prop := (zv = .non ∧ zo = none) ∨ ∃ z, Dt av H zv (tupI z) ∧ okP n ps z ∧ zo = some z
/-! ### two lists of pairs that grow -/
structure Two (av : List Addr) (W1 W2 : Addr) (H0 G : Hp) (k1 k2 : List (Int × Int)) : Prop where
  ne : W1 ≠ W2
  n1 : H0 W1 ≠ none
  kp : Keep [W1, W2] H0 G
  tr : Tr (W1 :: W2 :: av) G
  e1 : ∃ ws, G W1 = some (.lst ws) ∧ Dts (W1 :: W2 :: av) G ws (k1.map prD)
  e2 : ∃ ws, G W2 = some (.lst ws) ∧ Dts (W1 :: W2 :: av) G ws (k2.map prD)
theorem Two.start {av : List Addr} {W1 W2 : Addr} {H : Hp} (tr : Tr av H) (n1 : H W1 = none) (n2 : (upd H W1 (.lst [])) W2 = none) : Two av W1 W2 (upd (upd H W1 (.lst [])) W2 (.lst [])) (upd (upd H W1 (.lst [])) W2 (.lst [])) [] [] := by
  have e1 : (upd (upd H W1 (.lst [])) W2 (.lst [])) W1 = some (.lst []) := st n2 upd_same
  exact ⟨ne_of_none upd_same n2, by rw [e1]; exact Option.some_ne_none _, Keep.refl _ _, ((tr.upd.upd).cons upd_same).cons e1, ⟨[], e1, .nil⟩, ⟨[], upd_same, .nil⟩⟩
theorem Two.tup {av : List Addr} {W1 W2 r : Addr} {H0 G : Hp} {k1 k2 : List (Int × Int)} {xs : List V} (h : Two av W1 W2 H0 G k1 k2) (nr : G r = none) : Two av W1 W2 H0 (upd G r (.tup xs)) k1 k2 := by
  obtain ⟨w1, a1, d1⟩ := h.e1
  obtain ⟨w2, a2, d2⟩ := h.e2
  exact ⟨h.ne, h.n1, h.kp.trans (Keep.new nr).of, h.tr.upd, ⟨w1, st nr a1, d1.keep (Keep.new nr).of⟩, ⟨w2, st nr a2, d2.keep (Keep.new nr).of⟩⟩
theorem Two.put1 {av : List Addr} {W1 W2 r : Addr} {H0 G : Hp} {k1 k2 : List (Int × Int)} {x y : Int} {ws : List V} (h : Two av W1 W2 H0 G k1 k2) (nr : G r = none) (ew : G W1 = some (.lst ws)) : Two av W1 W2 H0 (upd (upd G r (.tup [.int x, .int y])) W1 (.lst (ws ++ [.ref r]))) (k1 ++ [(x, y)]) k2 := by
  have h2 := h.tup (xs := [.int x, .int y]) nr
  obtain ⟨w1, a1, d1⟩ := h2.e1
  obtain ⟨w2, a2, d2⟩ := h2.e2
  have z : w1 = ws := by have := st (o := .tup [.int x, .int y]) nr ew; rw [a1] at this; cases this; rfl
  subst z
  have dr : Dt (W1 :: W2 :: av) (upd G r (.tup [.int x, .int y])) (.ref r) (prD (x, y)) := .tup (h.tr.not nr) upd_same (.cons (.int x) (.cons (.int y) .nil))
  refine ⟨h.ne, h.n1, h2.kp.trans (Keep.put List.mem_cons_self), h2.tr.upd, ⟨_, upd_same, ?_⟩, ⟨w2, by rw [upd_ne h.ne.symm]; exact a2, d2.keep (Keep.put List.mem_cons_self)⟩⟩
  rw [List.map_append]
  exact (d1.app (.cons dr .nil)).keep (Keep.put List.mem_cons_self)
theorem Two.put2 {av : List Addr} {W1 W2 r : Addr} {H0 G : Hp} {k1 k2 : List (Int × Int)} {x y : Int} {ws : List V} (h : Two av W1 W2 H0 G k1 k2) (nr : G r = none) (ew : G W2 = some (.lst ws)) : Two av W1 W2 H0 (upd (upd G r (.tup [.int x, .int y])) W2 (.lst (ws ++ [.ref r]))) k1 (k2 ++ [(x, y)]) := by
  have h2 := h.tup (xs := [.int x, .int y]) nr
  obtain ⟨w1, a1, d1⟩ := h2.e1
  obtain ⟨w2, a2, d2⟩ := h2.e2
  have z : w2 = ws := by have := st (o := .tup [.int x, .int y]) nr ew; rw [a2] at this; cases this; rfl
  subst z
  have dr : Dt (W1 :: W2 :: av) (upd G r (.tup [.int x, .int y])) (.ref r) (prD (x, y)) := .tup (h.tr.not nr) upd_same (.cons (.int x) (.cons (.int y) .nil))
  have m2 : W2 ∈ W1 :: W2 :: av := List.mem_cons_of_mem _ List.mem_cons_self
  refine ⟨h.ne, h.n1, h2.kp.trans (Keep.put (List.mem_cons_of_mem _ List.mem_cons_self)), h2.tr.upd, ⟨w1, by rw [upd_ne h.ne]; exact a1, d1.keep (Keep.put m2)⟩, ⟨_, upd_same, ?_⟩⟩
  rw [List.map_append]
  exact (d2.app (.cons dr .nil)).keep (Keep.put m2)
theorem Two.all {av : List Addr} {W1 W2 : Addr} {H H0 G : Hp} {k1 k2 : List (Int × Int)} (h : Two av W1 W2 H0 G k1 k2) (k : Keep [] H H0) (n1 : H W1 = none) (n2 : H W2 = none) : Keep [] H G ∧ Tr av G ∧ (∃ ws, G W1 = some (.lst ws) ∧ Dts av G ws (k1.map prD)) ∧ ∃ ws, G W2 = some (.lst ws) ∧ Dts av G ws (k2.map prD) := by
  obtain ⟨w1, a1, d1⟩ := h.e1
  obtain ⟨w2, a2, d2⟩ := h.e2
  have sub : ∀ z ∈ av, z ∈ W1 :: W2 :: av := fun z m => List.mem_cons_of_mem _ (List.mem_cons_of_mem _ m)
  exact ⟨fun b o e _ => h.kp b o (k b o e List.not_mem_nil) (notDR (ne_of_none e n1) (ne_of_none e n2)), fun z m => h.tr z (sub z m), ⟨w1, a1, d1.less sub⟩, ⟨w2, a2, d2.less sub⟩⟩
section
variable {P : Program} {w : World} {K : PySem.W.Frag} {mg : Str → Option Value} {base : Heap}
abbrev sTold : Stmt := topS 61
abbrev nTold : List Str := ["_law_house_here", "_law_pipe_here", "_law_at", "_law_place_here", "_law_told_here", "e"]
theorem scTold : FnScope nTold ["_law_house_here", "_law_pipe_here", "_law_at", "_law_place_here"] (defScope sTold) := ⟨rfl, rfl, rfl, by decide +kernel, rfl, by decide +kernel, by decide +kernel⟩
def spTold : Sp := fun vs H Q _ => ∃ (h xv yv zv : V) (n : Int) (ps : List Pi) (dp da : PyData) (zo : Option Pl) (av a2 : List Addr), vs = [h, xv, yv, zv] ∧ Dt av H h (houseD n (ps.map Pi.dat)) ∧ HouseOk n ps ∧ Dt a2 H xv dp ∧ Shw dp ∧ Dt a2 H yv da ∧ Shw da ∧ zoOk n ps av H zv zo ∧ Tr av H ∧
  ∀ (H' : Hp) (a : Addr), Keep [] H H' → Tr av H' → Dt av H' (.ref a) (hTD n ps dp da zo) → Q (.ref a) H'
theorem ok_told (h : Has K mg "_law_told" sTold) (B : Blt mg) {CNoPipe CNoAt CFull CNoBy CNoRoom CWarrenError : Addr} (TNoPipe : ErrT K mg "NoPipe" "pipe" CNoPipe) (TNoAt : ErrT K mg "NoAt" "at" CNoAt) (TFull : ErrT K mg "Full" "what" CFull) (TNoBy : ErrT K mg "NoBy" "by" CNoBy) (TNoRoom : ErrT K mg "NoRoom" "room" CNoRoom) (gW : mg "WarrenError" = some (.ref CWarrenError)) (xf : Told7 K CNoPipe CNoAt CFull CNoBy CNoRoom CWarrenError) (CL : CanX P w K mg base "halved" ["house", "pipe", "at"] 5 (spHv CNoPipe CNoAt CFull)) (CG : CanX P w K mg base "place_halved" ["house", "pipe", "at", "place"] 5 (spPH CNoPipe CNoAt CFull)) : CanG P w K mg base "_law_told" ["_law_house_here", "_law_pipe_here", "_law_at", "_law_place_here"] 6 spTold := by
  obtain ⟨f, fd, F, g⟩ := h
  refine ⟨f, fd, fnG_of (k := 5) F scTold (fun vs H Q E h => ?_) (fun cdv A outer s H vs Q E hr hg h => ?_), g, F.kp, F.binds fun _ _ _ _ _ _ us hl => match us, hl with | [_, _, _, _], _ => rfl⟩
  · obtain ⟨h, xv, yv, zv, n, ps, dp, da, zo, av, a2, rfl, _⟩ := h
    rfl
  · obtain ⟨h, xv, yv, zv, n, ps, dp, da, zo, av, a2, rfl, dh, hk, dxv, s1, dyv, s2, hz, tr, q⟩ := h
    refine ⟨_, PSs.nox (pss_cons (ps_set (i := 4) scTold.nd rfl (by first | exact Or.inl rfl | exact Or.inr rfl) pe_non)
      (pss_cons (ps_try_asM (i := 5) rfl rfl scTold.nd rfl rfl takes0 (fun W pn xe tk => pss_one (ps_if (pt_cmpR op_isN (pv 3) pe_non (nomark _)) (pss_one (ps_set (i := 4) scTold.nd rfl (by first | exact Or.inl rfl | exact Or.inr rfl) (pe_lst (pa_cons pe_str (pa_cons (pe_canT CL (hr.mono (by decide)) tk (by rfl) (pa_cons (pv 0) (pa_cons (pv 1) (pa_cons (pv 2) pa_nil)))) pa_nil))))) (pss_one (ps_set (i := 4) scTold.nd rfl (by first | exact Or.inl rfl | exact Or.inr rfl) (pe_lst (pa_cons pe_str (pa_cons (pe_canT CG (hr.mono (by decide)) tk (by rfl) (pa_cons (pv 0) (pa_cons (pv 1) (pa_cons (pv 2) (pa_cons (pv 3) pa_nil))))) pa_nil)))))))
        (AsOk.cons ⟨by rfl, by decide, .inl TNoPipe.g⟩ (fun a oe cls d pn hz hf => pss_one (ps_set (i := 4) scTold.nd rfl (by first | exact Or.inl rfl | exact Or.inr rfl) (pe_lst (pa_cons pe_str (pa_cons (pe_callB (cr_reprA hg (units70m hr)) (by rfl) B.repr_ boot_repr (pa_cons (pe_xf TNoPipe.xf TNoPipe.no hz hf (pv 5)) pa_nil)) (pa_cons (pe_callB (call_isX TNoPipe.ei hz hf) (by rfl) B.isi boot_isinstance (pa_cons (pv 5) (pa_cons (pe_tup (pa_cons (pe_glob (v := .ref CNoAt) (by rfl) TNoAt.g rfl) (pa_cons (pe_glob (v := .ref CFull) (by rfl) TFull.g rfl) (pa_cons (pe_glob (v := .ref CNoBy) (by rfl) TNoBy.g rfl) (pa_cons (pe_glob (v := .ref CNoRoom) (by rfl) TNoRoom.g rfl) pa_nil))))) pa_nil))) pa_nil))))))
        (AsOk.cons ⟨by rfl, by decide, .inl TNoAt.g⟩ (fun a oe cls d pn hz hf => pss_one (ps_set (i := 4) scTold.nd rfl (by first | exact Or.inl rfl | exact Or.inr rfl) (pe_lst (pa_cons pe_str (pa_cons (pe_callB (cr_reprA hg (units70m hr)) (by rfl) B.repr_ boot_repr (pa_cons (pe_xf TNoAt.xf TNoAt.no hz hf (pv 5)) pa_nil)) (pa_cons (pe_callB (call_isX TNoAt.ei hz hf) (by rfl) B.isi boot_isinstance (pa_cons (pv 5) (pa_cons (pe_tup (pa_cons (pe_glob (v := .ref CFull) (by rfl) TFull.g rfl) (pa_cons (pe_glob (v := .ref CNoBy) (by rfl) TNoBy.g rfl) (pa_cons (pe_glob (v := .ref CNoRoom) (by rfl) TNoRoom.g rfl) pa_nil)))) pa_nil))) pa_nil))))))
        (AsOk.cons ⟨by rfl, by decide, .inl TFull.g⟩ (fun a oe cls d pn hz hf => pss_one (ps_set (i := 4) scTold.nd rfl (by first | exact Or.inl rfl | exact Or.inr rfl) (pe_lst (pa_cons pe_str (pa_cons (pe_xf TFull.xf TFull.no hz hf (pv 5)) (pa_cons (pe_or (pe_callB (call_isX TFull.ei hz hf) (by rfl) B.isi boot_isinstance (pa_cons (pv 5) (pa_cons (pe_tup (pa_cons (pe_glob (v := .ref CNoBy) (by rfl) TNoBy.g rfl) (pa_cons (pe_glob (v := .ref CNoRoom) (by rfl) TNoRoom.g rfl) pa_nil))) pa_nil))) (pe_one (pe_not (pe_callB (call_isX TFull.ei hz hf) (by rfl) B.isi boot_isinstance (pa_cons (pv 5) (pa_cons (pe_glob (v := .ref CWarrenError) (by rfl) gW rfl) pa_nil)))))) pa_nil))))))
        AsOk.nil))))
      (pss_one (ps_ret (pv 4))))), ?_⟩
    have hd : ∀ {J : Hp} {d p : Addr} {fs : List (Str × V)} {o : HO}, J d = some (.xd fs) → J p = none → ∀ dd, some d = some dd → ∃ fs, (upd J p o) dd = some (.xd fs) := fun {J d p fs o} e np dd z => by
      cases z; exact ⟨_, st np e⟩
    refine ⟨zv, rfl, rfl, _, rfl, ?_⟩
    rcases hz with ⟨rfl, rfl⟩ | ⟨z, dz, okz, rfl⟩
    · refine ite2 (fun _ => ?_) (fun e => absurd (decide_eq_true rfl) e)
      refine ⟨h, rfl, xv, rfl, yv, rfl, h, xv, yv, n, ps, dp, da, av, a2, rfl, dh, hk, dxv, dyv, tr, fun hin d' nd => ?_, fun i ei i0 i1 hb d' nd => ?_, fun i a e1 i0 i1 e2 a0 a1 => ⟨fun hn d' nd => ?_, fun hn H1 v1 k1 t1 e1' => ?_⟩⟩
      · refine ⟨true, xf.m11, fun _ a' na => ?_, fun z => (nomatch z)⟩
        refine ⟨.ref a', rfl, rfl, rfl, d', _, xv, rfl, upd_same, lk_yes, xv, dp, a2, rfl, dxv.keep (Keep.new nd).of, s1, ?_⟩
        refine ⟨.ref a', rfl, show 4 ≤ sizeLine by decide, fun tp ntp => ⟨rfl, hd upd_same ntp, .inr ⟨tp, [CNoAt, CFull, CNoBy, CNoRoom], false, rfl, upd_same, xf.k1, show 3 ≤ sizeLine by decide, fun r nr => ?_⟩⟩⟩
        obtain ⟨k3, t3, e3⟩ := lst_facts (tr.upd.upd) (ds := [.str "pipe", .str dp.shown, .bool false]) (.cons (.str _) (.cons (.str _) (.cons (.bl _) .nil))) nr
        refine ⟨.ref r, rfl, q _ r ((Keep.new nd).trans ((Keep.new ntp).trans k3)) t3 ?_⟩
        rw [htd1 hin]; exact e3
      · subst ei
        refine ⟨false, xf.m21, fun z => (nomatch z), fun _ => ⟨true, xf.m22, fun _ a' na => ?_, fun z => (nomatch z)⟩⟩
        refine ⟨.ref a', rfl, rfl, rfl, d', _, yv, rfl, upd_same, lk_yes, yv, da, a2, rfl, dyv.keep (Keep.new nd).of, s2, ?_⟩
        refine ⟨.ref a', rfl, show 3 ≤ sizeLine by decide, fun tp ntp => ⟨rfl, hd upd_same ntp, .inr ⟨tp, [CFull, CNoBy, CNoRoom], false, rfl, upd_same, xf.k2, show 3 ≤ sizeLine by decide, fun r nr => ?_⟩⟩⟩
        obtain ⟨k3, t3, e3⟩ := lst_facts (tr.upd.upd) (ds := [.str "at", .str da.shown, .bool false]) (.cons (.str _) (.cons (.str _) (.cons (.bl _) .nil))) nr
        refine ⟨.ref r, rfl, q _ r ((Keep.new nd).trans ((Keep.new ntp).trans k3)) t3 ?_⟩
        rw [htd2 i0 i1 hb]; exact e3
      · subst e1 e2
        refine ⟨false, xf.m31, fun z => (nomatch z), fun _ => ⟨false, xf.m32, fun z => (nomatch z), fun _ => ⟨true, xf.m33, fun _ a' na => ?_, fun z => (nomatch z)⟩⟩⟩
        refine ⟨.ref a', rfl, rfl, rfl, d', _, .str "rooms", rfl, upd_same, lk_yes, ?_⟩
        refine ⟨.ref a', rfl, show 2 ≤ sizeLine by decide, fun tp ntp => ⟨rfl, hd upd_same ntp, .inr ⟨tp, [CNoBy, CNoRoom], false, rfl, upd_same, xf.k3, _, rfl, iteF ?_⟩⟩⟩
        refine ⟨.ref a', rfl, rfl, hd upd_same ntp, .inl ⟨CWarrenError, true, rfl, xf.k4, _, rfl, show 3 ≤ sizeLine by decide, fun r nr => ?_⟩⟩
        obtain ⟨k3, t3, e3⟩ := lst_facts (tr.upd.upd) (ds := [.str "full", .str "rooms", .bool false]) (.cons (.str _) (.cons (.str _) (.cons (.bl _) .nil))) nr
        refine ⟨.ref r, rfl, q _ r ((Keep.new nd).trans ((Keep.new ntp).trans k3)) t3 ?_⟩
        rw [htd3 i0 i1 a0 a1 hn]; exact e3
      · subst e1 e2
        refine ⟨show 2 ≤ sizeLine by decide, fun r nr => ?_⟩
        obtain ⟨k3, t3, e3⟩ := lst_facts t1 (.cons (.str "told") (.cons e1' .nil)) nr
        refine ⟨.ref r, rfl, q _ r (k1.trans k3) t3 ?_⟩
        rw [htd4 i0 i1 a0 a1 hn]; exact e3
    · obtain ⟨b, rfl, nb, eb⟩ := tupI_at dz
      refine ite2 (fun e => absurd (of_decide_eq_true e) (fun z => by cases z)) (fun _ => ?_)
      refine ⟨h, rfl, xv, rfl, yv, rfl, .ref b, rfl, h, xv, yv, .ref b, n, ps, dp, da, z, av, a2, rfl, dh, dxv, dyv, dz, okz, tr, fun hin d' nd => ?_, fun i ei i0 i1 hb d' nd => ?_, fun i a e1 i0 i1 e2 a0 a1 => ⟨fun hn d' nd => ?_, fun hn H1 v1 k1 t1 e1' => ?_⟩⟩
      · refine ⟨true, xf.m11, fun _ a' na => ?_, fun z => (nomatch z)⟩
        refine ⟨.ref a', rfl, rfl, rfl, d', _, xv, rfl, upd_same, lk_yes, xv, dp, a2, rfl, dxv.keep (Keep.new nd).of, s1, ?_⟩
        refine ⟨.ref a', rfl, show 4 ≤ sizeLine by decide, fun tp ntp => ⟨rfl, hd upd_same ntp, .inr ⟨tp, [CNoAt, CFull, CNoBy, CNoRoom], false, rfl, upd_same, xf.k1, show 3 ≤ sizeLine by decide, fun r nr => ?_⟩⟩⟩
        obtain ⟨k3, t3, e3⟩ := lst_facts (tr.upd.upd) (ds := [.str "pipe", .str dp.shown, .bool false]) (.cons (.str _) (.cons (.str _) (.cons (.bl _) .nil))) nr
        refine ⟨.ref r, rfl, q _ r ((Keep.new nd).trans ((Keep.new ntp).trans k3)) t3 ?_⟩
        rw [htd1 hin]; exact e3
      · subst ei
        refine ⟨false, xf.m21, fun z => (nomatch z), fun _ => ⟨true, xf.m22, fun _ a' na => ?_, fun z => (nomatch z)⟩⟩
        refine ⟨.ref a', rfl, rfl, rfl, d', _, yv, rfl, upd_same, lk_yes, yv, da, a2, rfl, dyv.keep (Keep.new nd).of, s2, ?_⟩
        refine ⟨.ref a', rfl, show 3 ≤ sizeLine by decide, fun tp ntp => ⟨rfl, hd upd_same ntp, .inr ⟨tp, [CFull, CNoBy, CNoRoom], false, rfl, upd_same, xf.k2, show 3 ≤ sizeLine by decide, fun r nr => ?_⟩⟩⟩
        obtain ⟨k3, t3, e3⟩ := lst_facts (tr.upd.upd) (ds := [.str "at", .str da.shown, .bool false]) (.cons (.str _) (.cons (.str _) (.cons (.bl _) .nil))) nr
        refine ⟨.ref r, rfl, q _ r ((Keep.new nd).trans ((Keep.new ntp).trans k3)) t3 ?_⟩
        rw [htd2 i0 i1 hb]; exact e3
      · subst e1 e2
        refine ⟨false, xf.m31, fun z => (nomatch z), fun _ => ⟨false, xf.m32, fun z => (nomatch z), fun _ => ⟨true, xf.m33, fun _ a' na => ?_, fun z => (nomatch z)⟩⟩⟩
        refine ⟨.ref a', rfl, rfl, rfl, d', _, .str "rooms", rfl, upd_same, lk_yes, ?_⟩
        refine ⟨.ref a', rfl, show 2 ≤ sizeLine by decide, fun tp ntp => ⟨rfl, hd upd_same ntp, .inr ⟨tp, [CNoBy, CNoRoom], false, rfl, upd_same, xf.k3, _, rfl, iteF ?_⟩⟩⟩
        refine ⟨.ref a', rfl, rfl, hd upd_same ntp, .inl ⟨CWarrenError, true, rfl, xf.k4, _, rfl, show 3 ≤ sizeLine by decide, fun r nr => ?_⟩⟩
        obtain ⟨k3, t3, e3⟩ := lst_facts (tr.upd.upd) (ds := [.str "full", .str "rooms", .bool false]) (.cons (.str _) (.cons (.str _) (.cons (.bl _) .nil))) nr
        refine ⟨.ref r, rfl, q _ r ((Keep.new nd).trans ((Keep.new ntp).trans k3)) t3 ?_⟩
        rw [htd3 i0 i1 a0 a1 hn]; exact e3
      · subst e1 e2
        refine ⟨show 2 ≤ sizeLine by decide, fun r nr => ?_⟩
        obtain ⟨k3, t3, e3⟩ := lst_facts t1 (.cons (.str "told") (.cons e1' .nil)) nr
        refine ⟨.ref r, rfl, q _ r (k1.trans k3) t3 ?_⟩
        rw [htd5 i0 i1 a0 a1 hn]; exact e3
abbrev sOdd : Stmt := topS 56
abbrev nOdd : List Str := ["_law_deck_here", "_law_some"]
theorem scOdd : FnScope nOdd ["_law_deck_here"] (defScope sOdd) := ⟨rfl, rfl, rfl, by decide +kernel, rfl, by decide +kernel, by decide +kernel⟩
def spOdd : Sp := fun vs H Q _ => ∃ (D C R : Addr) (b : Int), vs = [.ref D] ∧ Deck H D C R b ∧ b ≤ 600000000 ∧
  ∀ H' v dd, Keep [D, R] H H' → Deck H' D C R (b + 1) → Dt [D, R] H' v dd → dd ∈ odd7 → Q v H'
theorem ok_odd (h : Has K mg "_law_odd" sOdd) (CN : Can P w K mg base "_law_next" ["_law_deck_here", "_law_many"] 1 spNext) : Can P w K mg base "_law_odd" ["_law_deck_here"] 2 spOdd := by
  obtain ⟨f, fd, F, g⟩ := h
  refine ⟨f, fd, F.ok (k := 1) scOdd (fun vs H Q E h => ?_) (fun cdv A outer s H vs Q E hr h => ?_), g, F.kp, F.binds fun _ _ _ _ _ _ us hl => match us, hl with | [_], _ => rfl⟩
  · obtain ⟨D, C, R, b, rfl, _⟩ := h
    rfl
  · obtain ⟨D, C, R, b, rfl, dk, hb, q⟩ := h
    refine ⟨_, pss_cons (ps_set (i := 1) scOdd.nd rfl (by first | exact Or.inl rfl | exact Or.inr rfl) (pe_lst (pa_cons pe_non (pa_cons pe_bl (pa_cons pe_bl (pa_cons (pe_un un_neg pe_int) (pa_cons pe_int (pa_cons pe_int (pa_cons (pe_op op_pow pe_int pe_int) (pa_cons pe_str (pa_cons pe_str (pa_cons (pe_tup pa_nil) (pa_cons (pe_lst pa_nil) (pa_cons pe_dnewK (pa_cons (pe_tup (pa_cons pe_int pa_nil)) (pa_cons (pe_lst (pa_cons pe_int pa_nil)) (pa_cons (pe_tup (pa_cons (pe_tup pa_nil) pa_nil)) (pa_cons (pe_tup (pa_cons pe_int (pa_cons pe_int (pa_cons pe_int pa_nil)))) (pa_cons (pe_tup (pa_cons pe_int (pa_cons pe_int (pa_cons pe_int (pa_cons (pe_tup pa_nil) (pa_cons (pe_tup pa_nil) pa_nil)))))) pa_nil)))))))))))))))))))
      (pss_one (ps_ret (pe_ix ix_list (pv 1) (pe_can CN (hr.mono (by decide)) (by rfl) (pa_cons (pv 0) (pa_cons pe_int pa_nil))) (fun _ _ => rfl)))), ?_⟩
    refine ⟨_, rfl, 10, 39, rfl, rfl, ⟨by decide, by decide, by decide⟩, show 0 ≤ sizeLine by decide, fun ro0 nro0 => ?_⟩
    obtain ⟨kro0, tro0, fro0⟩ := tup_facts dk.tr (ds := []) .nil nro0
    generalize upd _ ro0 (.tup _) = Jo0 at kro0 tro0 fro0 ⊢
    refine ⟨show 0 ≤ sizeLine by decide, fun ro1 nro1 => ?_⟩
    obtain ⟨kro1, tro1, fro1⟩ := lst_facts tro0 (ds := []) .nil nro1
    generalize upd _ ro1 (.lst _) = Jo1 at kro1 tro1 fro1 ⊢
    intro ro2 nro2
    obtain ⟨kro2, tro2, fro2⟩ := dct_facts tro1 nro2
    generalize upd _ ro2 (.dK _) = Jo2 at kro2 tro2 fro2 ⊢
    refine ⟨show 1 ≤ sizeLine by decide, fun ro3 nro3 => ?_⟩
    obtain ⟨kro3, tro3, fro3⟩ := tup_facts tro2 (ds := [(.int 0 : PyData)]) (.cons (.int 0) .nil) nro3
    generalize upd _ ro3 (.tup _) = Jo3 at kro3 tro3 fro3 ⊢
    refine ⟨show 1 ≤ sizeLine by decide, fun ro4 nro4 => ?_⟩
    obtain ⟨kro4, tro4, fro4⟩ := lst_facts tro3 (ds := [(.int 0 : PyData)]) (.cons (.int 0) .nil) nro4
    generalize upd _ ro4 (.lst _) = Jo4 at kro4 tro4 fro4 ⊢
    refine ⟨show 0 ≤ sizeLine by decide, fun ro5 nro5 => ?_⟩
    obtain ⟨kro5, tro5, fro5⟩ := tup_facts tro4 (ds := []) .nil nro5
    generalize upd _ ro5 (.tup _) = Jo5 at kro5 tro5 fro5 ⊢
    refine ⟨show 1 ≤ sizeLine by decide, fun ro6 nro6 => ?_⟩
    obtain ⟨kro6, tro6, fro6⟩ := tup_facts tro5 (ds := [(.tuple [] : PyData)]) (.cons fro5 .nil) nro6
    generalize upd _ ro6 (.tup _) = Jo6 at kro6 tro6 fro6 ⊢
    refine ⟨show 3 ≤ sizeLine by decide, fun ro7 nro7 => ?_⟩
    obtain ⟨kro7, tro7, fro7⟩ := tup_facts tro6 (ds := [(.int 0 : PyData), .int 0, .int 0]) (.cons (.int 0) (.cons (.int 0) (.cons (.int 0) .nil))) nro7
    generalize upd _ ro7 (.tup _) = Jo7 at kro7 tro7 fro7 ⊢
    refine ⟨show 0 ≤ sizeLine by decide, fun ro8 nro8 => ?_⟩
    obtain ⟨kro8, tro8, fro8⟩ := tup_facts tro7 (ds := []) .nil nro8
    generalize upd _ ro8 (.tup _) = Jo8 at kro8 tro8 fro8 ⊢
    refine ⟨show 0 ≤ sizeLine by decide, fun ro9 nro9 => ?_⟩
    obtain ⟨kro9, tro9, fro9⟩ := tup_facts tro8 (ds := []) .nil nro9
    generalize upd _ ro9 (.tup _) = Jo9 at kro9 tro9 fro9 ⊢
    refine ⟨show 5 ≤ sizeLine by decide, fun ro10 nro10 => ?_⟩
    obtain ⟨kro10, tro10, fro10⟩ := tup_facts tro9 (ds := [(.int 0 : PyData), .int 1, .int 2, .tuple [], .tuple []]) (.cons (.int 0) (.cons (.int 1) (.cons (.int 2) (.cons (fro8.keep kro9.of) (.cons fro9 .nil))))) nro10
    generalize upd _ ro10 (.tup _) = Jo10 at kro10 tro10 fro10 ⊢
    refine ⟨show 17 ≤ sizeLine by decide, fun oL noL => ?_⟩
    have dO : Dts [D, R] Jo10 [.non, .bl true, .bl false, .int (-1), .int 0, .int 1, .int (10 ^ (39 : Int).toNat), .str "", .str "0", .ref ro0, .ref ro1, .ref ro2, .ref ro3, .ref ro4, .ref ro6, .ref ro7, .ref ro10] [(.none : PyData), .bool true, .bool false, .int (-1), .int 0, .int 1, .int (10 ^ 39), .str "", .str "0", .tuple [], .list [], .dict [], .tuple [.int 0], .list [.int 0], .tuple [.tuple []], .tuple [.int 0, .int 0, .int 0], .tuple [.int 0, .int 1, .int 2, .tuple [], .tuple []]] := (.cons .non (.cons (.bl true) (.cons (.bl false) (.cons (.int (-1)) (.cons (.int 0) (.cons (.int 1) (.cons (.int _) (.cons (.str _) (.cons (.str _) (.cons ((((((((((fro0.keep kro1.of).keep kro2.of).keep kro3.of).keep kro4.of).keep kro5.of).keep kro6.of).keep kro7.of).keep kro8.of).keep kro9.of).keep kro10.of) (.cons (((((((((fro1.keep kro2.of).keep kro3.of).keep kro4.of).keep kro5.of).keep kro6.of).keep kro7.of).keep kro8.of).keep kro9.of).keep kro10.of) (.cons ((((((((fro2.keep kro3.of).keep kro4.of).keep kro5.of).keep kro6.of).keep kro7.of).keep kro8.of).keep kro9.of).keep kro10.of) (.cons (((((((fro3.keep kro4.of).keep kro5.of).keep kro6.of).keep kro7.of).keep kro8.of).keep kro9.of).keep kro10.of) (.cons ((((((fro4.keep kro5.of).keep kro6.of).keep kro7.of).keep kro8.of).keep kro9.of).keep kro10.of) (.cons ((((fro6.keep kro7.of).keep kro8.of).keep kro9.of).keep kro10.of) (.cons (((fro7.keep kro8.of).keep kro9.of).keep kro10.of) (.cons fro10 .nil)))))))))))))))))
    have ko : Keep [] H Jo10 := (kro0.trans (kro1.trans (kro2.trans (kro3.trans (kro4.trans (kro5.trans (kro6.trans (kro7.trans (kro8.trans (kro9.trans kro10))))))))))
    have to : Tr [D, R] Jo10 := tro10
    have kL := Keep.new (av := []) (o := .lst [.non, .bl true, .bl false, .int (-1), .int 0, .int 1, .int (10 ^ (39 : Int).toNat), .str "", .str "0", .ref ro0, .ref ro1, .ref ro2, .ref ro3, .ref ro4, .ref ro6, .ref ro7, .ref ro10]) noL
    have eL : (upd Jo10 oL (.lst [.non, .bl true, .bl false, .int (-1), .int 0, .int 1, .int (10 ^ (39 : Int).toNat), .str "", .str "0", .ref ro0, .ref ro1, .ref ro2, .ref ro3, .ref ro4, .ref ro6, .ref ro7, .ref ro10])) oL = some (.lst [.non, .bl true, .bl false, .int (-1), .int 0, .int 1, .int (10 ^ (39 : Int).toNat), .str "", .str "0", .ref ro0, .ref ro1, .ref ro2, .ref ro3, .ref ro4, .ref ro6, .ref ro7, .ref ro10]) := upd_same
    have hL := (dk.keep ko).ne noL
    have dkL := (dk.keep ko).keep kL
    refine ⟨.ref oL, rfl, .ref D, rfl, D, C, R, b, 17, rfl, by decide, by decide, dkL, by omega, fun J k kJ dkJ k0 k1 => ?_⟩
    have hk : k.toNat < 17 := by omega
    obtain ⟨x, gx⟩ : ∃ x, ([.non, .bl true, .bl false, .int (-1), .int 0, .int 1, .int (10 ^ (39 : Int).toNat), .str "", .str "0", .ref ro0, .ref ro1, .ref ro2, .ref ro3, .ref ro4, .ref ro6, .ref ro7, .ref ro10] : List V)[k.toNat]? = some x := ⟨_, List.getElem?_eq_getElem (show k.toNat < 17 from hk)⟩
    refine ⟨oL, _, k, x, rfl, rfl, SqL.of (kJ oL _ eL (notDR hL.1 hL.2.2)), atI_of k0 gx, ?_⟩
    obtain ⟨dd, gd, dx⟩ := ((dO.keep kL.of).keep kJ).getv k.toNat gx
    exact q J x dd (((ko.trans kL).of).trans kJ) dkJ dx (List.mem_of_getElem? gd)
abbrev sDue : Stmt := topS 59
abbrev nDue : List Str := ["_law_house_here", "_law_pipe_here", "_law_at", "_law_rooms", "_law_pipes", "_law_one_here", "_law_other", "_law_length_here", "_law_narrows", "_law_flaps", "_law_ahead", "_law_beyond", "_law_spot", "_law_width", "_law_hung", "_law_after", "_law_course", "_law_near", "_law_new"]
theorem scDue : FnScope nDue ["_law_house_here", "_law_pipe_here", "_law_at"] (defScope sDue) := ⟨rfl, rfl, rfl, by decide +kernel, rfl, by decide +kernel, by decide +kernel⟩
def spDue : Sp := fun vs H Q _ => ∃ (h : V) (n i a : Int) (ps : List Pi) (av : List Addr), vs = [h, .int i, .int a] ∧ Dt av H h (houseD n (ps.map Pi.dat)) ∧ HouseOk n ps ∧ 0 ≤ i ∧ i < ps.length ∧ 1 ≤ a ∧ a ≤ (pr ps i).l - 1 ∧ Tr av H ∧
  ∀ (H' : Hp) (r : Addr), Keep [] H H' → Tr av H' → Dt av H' (.ref r) (houseD (n + 1) ((halfP ps n i a).map Pi.dat)) → Q (.ref r) H'
theorem ok_due (h : Has K mg "_law_due" sDue) (B : Blt mg) : Can P w K mg base "_law_due" ["_law_house_here", "_law_pipe_here", "_law_at"] 1 spDue := by
  obtain ⟨f, fd, F, g⟩ := h
  refine ⟨f, fd, F.ok (k := 0) scDue (fun vs H Q E h => ?_) (fun cdv A outer s H vs Q E hr h => ?_), g, F.kp, F.binds fun _ _ _ _ _ _ us hl => match us, hl with | [_, _, _], _ => rfl⟩
  · obtain ⟨h, n, i, a, ps, av, rfl, _⟩ := h
    rfl
  · obtain ⟨h, n, i, a, ps, av, rfl, dh, hk, i0, i1, a0, a1, tr, q⟩ := h
    refine ⟨_, pss_cons (ps_asg (pv 0) (pg_tup (by rfl) (pgs_cons (pg_name (i := 3) scDue.nd rfl (by first | exact Or.inl rfl | exact Or.inr rfl)) (pgs_cons (pg_name (i := 4) scDue.nd rfl (by first | exact Or.inl rfl | exact Or.inr rfl)) pgs_nil))))
      (pss_cons (ps_asg (pe_ix ix_tup (pv 4) (pv 1) (fun _ _ => rfl)) (pg_tup (by rfl) (pgs_cons (pg_name (i := 5) scDue.nd rfl (by first | exact Or.inl rfl | exact Or.inr rfl)) (pgs_cons (pg_name (i := 6) scDue.nd rfl (by first | exact Or.inl rfl | exact Or.inr rfl)) (pgs_cons (pg_name (i := 7) scDue.nd rfl (by first | exact Or.inl rfl | exact Or.inr rfl)) (pgs_cons (pg_name (i := 8) scDue.nd rfl (by first | exact Or.inl rfl | exact Or.inr rfl)) (pgs_cons (pg_name (i := 9) scDue.nd rfl (by first | exact Or.inl rfl | exact Or.inr rfl)) pgs_nil)))))))
      (pss_cons (ps_par (i := 10) (j := 11) (by rfl) scDue.nd rfl rfl (by decide) rfl rfl (pa_cons (pe_lst pa_nil) (pa_cons (pe_lst pa_nil) pa_nil)) (by rfl))
      (pss_cons (ps_for PassesOwn.never rfl (pi_tup (pv 8)) (pg_tup (by rfl) (pgs_cons (pg_name (i := 12) scDue.nd rfl (by first | exact Or.inl rfl | exact Or.inr rfl)) (pgs_cons (pg_name (i := 13) scDue.nd rfl (by first | exact Or.inl rfl | exact Or.inr rfl)) pgs_nil)))
      (pss_cons (ps_if (pt_cmpR op_lt (pv 12) (pv 2) (nomark _)) (pss_one (ps_expr (pe_bm PySem.F.plainAttrs_list PySem.F.slot_list_append PySem.F.type_list_append mt_append (pv 10) (pa_cons (pe_tup (pa_cons (pv 12) (pa_cons (pv 13) pa_nil))) pa_nil)))) pss_nil)
      (pss_one (ps_if (pt_cmpR op_gt (pv 12) (pv 2) (nomark _)) (pss_one (ps_expr (pe_bm PySem.F.plainAttrs_list PySem.F.slot_list_append PySem.F.type_list_append mt_append (pv 11) (pa_cons (pe_tup (pa_cons (pe_op op_sub (pv 7) (pv 12)) (pa_cons (pv 13) pa_nil))) pa_nil)))) pss_nil))))
      (pss_cons (ps_par (i := 14) (j := 15) (by rfl) scDue.nd rfl rfl (by decide) rfl rfl (pa_cons (pe_lst pa_nil) (pa_cons (pe_lst pa_nil) pa_nil)) (by rfl))
      (pss_cons (ps_for PassesOwn.never rfl (pi_tup (pv 9)) (pg_tup (by rfl) (pgs_cons (pg_name (i := 12) scDue.nd rfl (by first | exact Or.inl rfl | exact Or.inr rfl)) (pgs_cons (pg_name (i := 16) scDue.nd rfl (by first | exact Or.inl rfl | exact Or.inr rfl)) pgs_nil)))
      (pss_one (ps_if (pt_cmpR op_le (pe_op op_add (pv 12) pe_int) (pv 2) (nomark _)) (pss_one (ps_expr (pe_bm PySem.F.plainAttrs_list PySem.F.slot_list_append PySem.F.type_list_append mt_append (pv 14) (pa_cons (pe_tup (pa_cons (pv 12) (pa_cons (pv 16) pa_nil))) pa_nil)))) (pss_one (ps_expr (pe_bm PySem.F.plainAttrs_list PySem.F.slot_list_append PySem.F.type_list_append mt_append (pv 15) (pa_cons (pe_tup (pa_cons (pe_op op_sub (pe_op op_sub (pv 7) (pv 12)) pe_int) (pa_cons (pe_op op_sub pe_int (pv 16)) pa_nil))) pa_nil)))))))
      (pss_cons (ps_set (i := 17) scDue.nd rfl (by first | exact Or.inl rfl | exact Or.inr rfl) (pe_tup (pa_cons (pv 5) (pa_cons (pv 3) (pa_cons (pv 2) (pa_cons (pe_callTy call_tuple_of (by rfl) B.tuple_ boot_tuple (pa_cons (pv 10) pa_nil)) (pa_cons (pe_callTy call_tuple_of (by rfl) B.tuple_ boot_tuple (pa_cons (pv 14) pa_nil)) pa_nil)))))))
      (pss_cons (ps_set (i := 18) scDue.nd rfl (by first | exact Or.inl rfl | exact Or.inr rfl) (pe_tup (pa_cons (pv 6) (pa_cons (pv 3) (pa_cons (pe_op op_sub (pv 7) (pv 2)) (pa_cons (pe_callTy call_tuple_of (by rfl) B.tuple_ boot_tuple (pa_cons (pe_callB (cr_sortVI (units10 hr)) (by rfl) B.sorted_ boot_sorted (pa_cons (pv 11) pa_nil)) pa_nil)) (pa_cons (pe_callTy call_tuple_of (by rfl) B.tuple_ boot_tuple (pa_cons (pe_callB (cr_sortVI (units10 hr)) (by rfl) B.sorted_ boot_sorted (pa_cons (pv 15) pa_nil)) pa_nil)) pa_nil)))))))
      (pss_one (ps_ret (pe_tup (pa_cons (pe_op op_add (pv 3) pe_int) (pa_cons (pe_op op_catA (pe_op op_catA (pe_op op_catA (pe_slice sl_tupA (pv 4) po_none (po_some (pv 1))) (pe_tup (pa_cons (pv 17) pa_nil))) (pe_slice sl_tupA (pv 4) (po_some (pe_op op_add (pv 1) pe_int)) po_none)) (pe_tup (pa_cons (pv 18) pa_nil))) pa_nil)))))))))))), ?_⟩
    obtain ⟨ah, ap, xp, rfl, nah, eah, nap, eap, dxp⟩ := house_parts dh
    refine ⟨.ref ah, rfl, ah, _, rfl, SqT.of eah, rfl, .int n, _, rfl, .ref ap, [], rfl, rfl, ?_⟩
    obtain ⟨p, pa, T1, T2, mp, hp, epa, eP⟩ := pi_at dxp i0 i1
    have ep : p = pr ps i := by
      have z := (pr_mem i0 i1).2
      rw [z] at hp; exact (Option.some.inj hp).symm
    subst ep
    obtain ⟨v, ev, dpi⟩ := dxp.get i.toNat (d := (pr ps i).dat) (by rw [List.getElem?_map, (pr_mem i0 i1).2]; rfl)
    have ev2 : v = .ref pa := by
      have z := atI_of i0 ev
      rw [epa] at z; exact (Option.some.inj z).symm
    subst ev2
    obtain ⟨d4, d5⟩ := pipe_tails dpi eP
    obtain ⟨_, u1, eu1, _, eT1, dT1⟩ := tup_at d4
    cases eu1
    obtain ⟨_, u2, eu2, _, eT2, dT2⟩ := tup_at d5
    cases eu2
    have lT1 : u1.length = (pr ps i).na.length := by rw [dT1.len, List.length_map]
    have lT2 : u2.length = (pr ps i).fl.length := by rw [dT2.len, List.length_map]
    have okp := hk.ok _ (pr_mem i0 i1).1
    have n3 := okp.fit.nle
    have f3 := okp.fit.fle
    have l16 := hk.len
    have n16 := hk.n2
    refine ⟨.ref ap, rfl, .int i, rfl, ap, _, i, .ref pa, rfl, rfl, SqT.of eap, epa, pa, _, rfl, SqT.of eP, rfl, _, _, rfl, _, _, rfl, _, _, rfl, _, _, rfl, _, [], rfl, rfl, ?_⟩
    refine ⟨show 0 ≤ sizeLine by decide, fun W1 nW1 => ⟨show 0 ≤ sizeLine by decide, fun W2 nW2 => ⟨.ref W1, .ref W2, rfl, ?_⟩⟩⟩
    have two := Two.start tr nW1 nW2
    have kA : Keep [] H (upd (upd H W1 (.lst [])) W2 (.lst [])) := (Keep.new nW1).trans (Keep.new nW2)
    have nW2' : H W2 = none := by
      cases hq : H W2 with
      | none => rfl
      | some o => have := (Keep.new (av := []) (o := .lst []) nW1) W2 o hq List.not_mem_nil; rw [nW2] at this; cases this
    generalize upd (upd H W1 (.lst [])) W2 (.lst []) = HA at two kA ⊢
    have eT1a := kA T1 _ eT1 List.not_mem_nil
    refine ⟨.ref T1, rfl, T1, rfl, ⟨_, SqT.of eT1a⟩, for_tup (K := K) (a := T1) (xs := u1) (fun j σ G => ∃ s12 s13 s14 s15 s16 s17 s18, σ = [some (.ref ah), some (.int i), some (.int a), some (.int n), some (.ref ap), some (.int (pr ps i).x), some (.int (pr ps i).y), some (.int (pr ps i).l), some (.ref T1), some (.ref T2), some (.ref W1), some (.ref W2), s12, s13, s14, s15, s16, s17, s18] ∧ Two av W1 W2 HA G (((pr ps i).na.take j).filter (fun k : Int × Int => decide (k.1 < a))) ((((pr ps i).na.take j).filter (fun k : Int × Int => decide (a < k.1))).map (fun k : Int × Int => ((pr ps i).l - k.1, k.2))))
      ⟨_, _, _, _, _, _, _, rfl, two⟩ (fun j σ G _ z => ?_) (fun j y σ G hy z => ?_) (fun σ G z => ?_)⟩
    · obtain ⟨_, _, _, _, _, _, _, _, tw⟩ := z
      exact SqT.of ((tw.all kA nW1 nW2').1 T1 _ eT1 List.not_mem_nil)
    · obtain ⟨s12, s13, s14, s15, s16, s17, s18, rfl, tw⟩ := z
      obtain ⟨dd, gd, dy⟩ := dT1.getv j hy
      rw [List.getElem?_map] at gd
      obtain ⟨k, gk, rfl⟩ := Option.map_eq_some_iff.mp gd
      obtain ⟨b, ys, rfl, _, eb, db⟩ := tup_at (show Dt av H y (.tuple [.int k.1, .int k.2]) from dy)
      have hys : ys = [.int k.1, .int k.2] := Dts.unints (ns := [k.1, k.2]) db
      subst hys
      have tk : (pr ps i).na.take (j + 1) = (pr ps i).na.take j ++ [k] := by rw [List.take_add_one, gk]; rfl
      have hj : j < (pr ps i).na.length := (List.getElem?_eq_some_iff.mp gk).1
      have big : ∀ (l : List (Int × Int)) (ws : List V) (G : Hp) (av : List Addr), Dts av G ws (l.map prD) → l.length ≤ 3 → ws.length < sizeLine := fun l ws G av dw hl => by
        have := dw.len; rw [List.length_map] at this
        exact Nat.lt_of_lt_of_le (by omega : ws.length < 1000) (small1000 (by omega))
      have lt : ((pr ps i).na.take j).length ≤ 3 := by rw [List.length_take]; omega
      refine ⟨b, _, rfl, SqT.of ((tw.all kA nW1 nW2').1 b _ eb List.not_mem_nil), rfl, _, _, rfl, _, [], rfl, rfl, ?_⟩
      obtain ⟨w1, a1', d1'⟩ := tw.e1
      obtain ⟨w2, a2', d2'⟩ := tw.e2
      refine ⟨.int k.1, rfl, .int a, rfl, k.1, a, rfl, rfl, _, rfl, ite2 (fun c => ?_) (fun c => ?_)⟩
      · have c' : k.1 < a := of_decide_eq_true c
        refine ⟨.ref W1, rfl, .inl ⟨rfl, _, SqL.of a1'⟩, .int k.1, rfl, .int k.2, rfl, show 2 ≤ sizeLine by decide, fun r nr => ?_⟩
        refine ⟨W1, w1, _, rfl, rfl, st nr a1', big _ _ _ _ d1' (Nat.le_trans (List.length_filter_le _ _) lt), ?_⟩
        refine ⟨.int k.1, rfl, .int a, rfl, k.1, a, rfl, rfl, _, rfl, ite2 (fun z => absurd (of_decide_eq_true z) (by omega)) (fun _ => ?_)⟩
        refine ⟨_, _, _, _, _, _, _, rfl, ?_⟩
        rw [tk, List.filter_append, List.filter_append, show [k].filter (fun k : Int × Int => decide (k.1 < a)) = [k] by simp [c'], show [k].filter (fun k : Int × Int => decide (a < k.1)) = [] by simp; omega, List.append_nil]
        exact tw.put1 nr a1'
      · have c' : ¬ k.1 < a := fun z => c (decide_eq_true z)
        refine ⟨.int k.1, rfl, .int a, rfl, k.1, a, rfl, rfl, _, rfl, ite2 (fun z => ?_) (fun z => ?_)⟩
        · have z' : a < k.1 := of_decide_eq_true z
          refine ⟨.ref W2, rfl, .inl ⟨rfl, _, SqL.of a2'⟩, .int (pr ps i).l, rfl, .int k.1, rfl, _, _, rfl, rfl, .int k.2, rfl, show 2 ≤ sizeLine by decide, fun r nr => ?_⟩
          refine ⟨W2, w2, _, rfl, rfl, st nr a2', big _ _ _ _ d2' (by rw [List.length_map]; exact Nat.le_trans (List.length_filter_le _ _) lt), ?_⟩
          refine ⟨_, _, _, _, _, _, _, rfl, ?_⟩
          rw [tk, List.filter_append, List.filter_append, show [k].filter (fun k : Int × Int => decide (k.1 < a)) = [] by simp; omega, show [k].filter (fun k : Int × Int => decide (a < k.1)) = [k] by simp [z'], List.append_nil, List.map_append]
          exact tw.put2 nr a2'
        · have z' : ¬ a < k.1 := fun w => z (decide_eq_true w)
          refine ⟨_, _, _, _, _, _, _, rfl, ?_⟩
          rw [tk, List.filter_append, List.filter_append, show [k].filter (fun k : Int × Int => decide (k.1 < a)) = [] by simp; omega, show [k].filter (fun k : Int × Int => decide (a < k.1)) = [] by simp; omega, List.append_nil, List.append_nil]
          exact tw
    obtain ⟨s12, s13, s14, s15, s16, s17, s18, rfl, tw⟩ := z
    rw [lT1, List.take_length] at tw
    obtain ⟨kG, tG, ⟨w1, a1', d1'⟩, w2, a2', d2'⟩ := tw.all kA nW1 nW2'
    clear tw two
    refine ⟨show 0 ≤ sizeLine by decide, fun W3 nW3 => ⟨show 0 ≤ sizeLine by decide, fun W4 nW4 => ⟨.ref W3, .ref W4, rfl, ?_⟩⟩⟩
    have two := Two.start tG nW3 nW4
    have kB : Keep [] G (upd (upd G W3 (.lst [])) W4 (.lst [])) := (Keep.new nW3).trans (Keep.new nW4)
    have nW4' : G W4 = none := by
      cases hq : G W4 with
      | none => rfl
      | some o => have := (Keep.new (av := []) (o := .lst []) nW3) W4 o hq List.not_mem_nil; rw [nW4] at this; cases this
    generalize upd (upd G W3 (.lst [])) W4 (.lst []) = HB at two kB ⊢
    have eT2a := (kG.trans kB) T2 _ eT2 List.not_mem_nil
    refine ⟨.ref T2, rfl, T2, rfl, ⟨_, SqT.of eT2a⟩, for_tup (K := K) (a := T2) (xs := u2) (fun j σ J => ∃ s12 s13 s16 s17 s18, σ = [some (.ref ah), some (.int i), some (.int a), some (.int n), some (.ref ap), some (.int (pr ps i).x), some (.int (pr ps i).y), some (.int (pr ps i).l), some (.ref T1), some (.ref T2), some (.ref W1), some (.ref W2), s12, s13, some (.ref W3), some (.ref W4), s16, s17, s18] ∧ Two av W3 W4 HB J (((pr ps i).fl.take j).filter (fun k : Int × Int => decide (k.1 < a))) ((((pr ps i).fl.take j).filter (fun k : Int × Int => decide (a ≤ k.1))).map (fun k : Int × Int => ((pr ps i).l - 1 - k.1, -k.2))))
      ⟨_, _, _, _, _, rfl, two⟩ (fun j σ J _ z => ?_) (fun j y σ J hy z => ?_) (fun σ J z => ?_)⟩
    · obtain ⟨_, _, _, _, _, _, tw⟩ := z
      exact SqT.of ((kG.trans (tw.all kB nW3 nW4').1) T2 _ eT2 List.not_mem_nil)
    · obtain ⟨s12, s13, s16, s17, s18, rfl, tw⟩ := z
      obtain ⟨dd, gd, dy⟩ := dT2.getv j hy
      rw [List.getElem?_map] at gd
      obtain ⟨k, gk, rfl⟩ := Option.map_eq_some_iff.mp gd
      obtain ⟨b, ys, rfl, _, eb, db⟩ := tup_at (show Dt av H y (.tuple [.int k.1, .int k.2]) from dy)
      have hys : ys = [.int k.1, .int k.2] := Dts.unints (ns := [k.1, k.2]) db
      subst hys
      have tk : (pr ps i).fl.take (j + 1) = (pr ps i).fl.take j ++ [k] := by rw [List.take_add_one, gk]; rfl
      have hj : j < (pr ps i).fl.length := (List.getElem?_eq_some_iff.mp gk).1
      have big : ∀ (l : List (Int × Int)) (ws : List V) (G : Hp) (av : List Addr), Dts av G ws (l.map prD) → l.length ≤ 3 → ws.length < sizeLine := fun l ws G av dw hl => by
        have := dw.len; rw [List.length_map] at this
        exact Nat.lt_of_lt_of_le (by omega : ws.length < 1000) (small1000 (by omega))
      have lt : ((pr ps i).fl.take j).length ≤ 3 := by rw [List.length_take]; omega
      refine ⟨b, _, rfl, SqT.of ((kG.trans (tw.all kB nW3 nW4').1) b _ eb List.not_mem_nil), rfl, _, _, rfl, _, [], rfl, rfl, ?_⟩
      obtain ⟨w3, a3', d3'⟩ := tw.e1
      obtain ⟨w4, a4', d4'⟩ := tw.e2
      refine ⟨.int k.1, rfl, _, 1, rfl, rfl, .int a, rfl, _, a, rfl, rfl, _, rfl, ite2 (fun c => ?_) (fun c => ?_)⟩
      · have c' : k.1 < a := by have : k.1 + 1 ≤ a := of_decide_eq_true c; omega
        refine ⟨.ref W3, rfl, .inl ⟨rfl, _, SqL.of a3'⟩, .int k.1, rfl, .int k.2, rfl, show 2 ≤ sizeLine by decide, fun r nr => ?_⟩
        refine ⟨W3, w3, _, rfl, rfl, st nr a3', big _ _ _ _ d3' (Nat.le_trans (List.length_filter_le _ _) lt), ?_⟩
        refine ⟨_, _, _, _, _, rfl, ?_⟩
        rw [tk, List.filter_append, List.filter_append, show [k].filter (fun k : Int × Int => decide (k.1 < a)) = [k] by simp [c'], show [k].filter (fun k : Int × Int => decide (a ≤ k.1)) = [] by simp; omega, List.append_nil]
        exact tw.put1 nr a3'
      · have c' : a ≤ k.1 := by have : ¬ (k.1 + 1 ≤ a) := fun z => c (decide_eq_true z); omega
        refine ⟨.ref W4, rfl, .inl ⟨rfl, _, SqL.of a4'⟩, .int (pr ps i).l, rfl, .int k.1, rfl, _, _, rfl, rfl, _, 1, rfl, rfl, .int k.2, rfl, _, _, rfl, rfl, show 2 ≤ sizeLine by decide, fun r nr => ?_⟩
        refine ⟨W4, w4, _, rfl, rfl, st nr a4', big _ _ _ _ d4' (by rw [List.length_map]; exact Nat.le_trans (List.length_filter_le _ _) lt), ?_⟩
        refine ⟨_, _, _, _, _, rfl, ?_⟩
        rw [tk, List.filter_append, List.filter_append, show [k].filter (fun k : Int × Int => decide (k.1 < a)) = [] by simp; omega, show [k].filter (fun k : Int × Int => decide (a ≤ k.1)) = [k] by simp [c'], List.append_nil, List.map_append]
        dsimp only
        rw [show (pr ps i).l - k.1 - 1 = (pr ps i).l - 1 - k.1 by omega, show (0 : Int) - k.2 = -k.2 by omega]
        exact tw.put2 nr a4'
    obtain ⟨s12, s13, s16, s17, s18, rfl, tw⟩ := z
    rw [lT2, List.take_length] at tw
    obtain ⟨kJ, tJ, ⟨w3, a3', d3'⟩, w4, a4', d4'⟩ := tw.all kB nW3 nW4'
    clear tw two
    have len3 : ∀ (l : List (Int × Int)) (ws : List V) (G : Hp) (av : List Addr), Dts av G ws (l.map prD) → l.length ≤ 3 → ws.length ≤ 1000 := fun l ws G av dw hl => by
      have := dw.len; rw [List.length_map] at this; omega
    -- near
    refine ⟨.int (pr ps i).x, rfl, .int n, rfl, .int a, rfl, .ref W1, rfl, W1, _, rfl, .inl ⟨SqL.of (kJ W1 _ a1' List.not_mem_nil), fun R1 nR1 => ?_⟩⟩
    obtain ⟨q1, t1, f1⟩ := tup_facts tJ (d1'.keep kJ.of) nR1
    generalize upd _ R1 (.tup _) = G1 at q1 t1 f1 ⊢
    refine ⟨.ref W3, rfl, W3, _, rfl, .inl ⟨SqL.of (q1 W3 _ a3' List.not_mem_nil), fun R2 nR2 => ?_⟩⟩
    obtain ⟨q2, t2, f2⟩ := tup_facts t1 (d3'.keep q1.of) nR2
    generalize upd _ R2 (.tup _) = G2 at q2 t2 f2 ⊢
    refine ⟨show 5 ≤ sizeLine by decide, fun r1 nr1 => ?_⟩
    obtain ⟨q5, t5, f5⟩ := tup_facts t2 (ds := [.int (pr ps i).x, .int n, .int a, .tuple (((pr ps i).na.filter (fun k : Int × Int => decide (k.1 < a))).map prD), .tuple (((pr ps i).fl.filter (fun k : Int × Int => decide (k.1 < a))).map prD)]) (.cons (.int _) (.cons (.int _) (.cons (.int _) (.cons (f1.keep q2.of) (.cons f2 .nil))))) nr1
    generalize upd _ r1 (.tup _) = G5 at q5 t5 f5 ⊢
    have q15 := q1.trans (q2.trans q5)
    -- beyond
    refine ⟨.int (pr ps i).y, rfl, .int n, rfl, .int (pr ps i).l, rfl, .int a, rfl, _, _, rfl, rfl, .ref W2, rfl, ?_⟩
    dsimp only [tNil]
    refine sort_pairs ((kJ.trans q15) W2 _ a2' List.not_mem_nil) t5 (d2'.keep (kJ.trans q15).of) (len3 _ _ _ _ d2' (by rw [List.length_map]; exact Nat.le_trans (List.length_filter_le _ _) n3)) (fun G6 N6 vs6 k6 t6 e6 d6 => ?_)
    refine ⟨N6, vs6, rfl, .inl ⟨SqL.of e6, fun R3 nR3 => ?_⟩⟩
    obtain ⟨q7, t7, f7⟩ := tup_facts t6 d6 nR3
    generalize upd _ R3 (.tup _) = G7 at q7 t7 f7 ⊢
    have q17 := q15.trans (k6.trans q7)
    refine ⟨.ref W4, rfl, ?_⟩
    dsimp only [tNil]
    refine sort_pairs (q17 W4 _ a4' List.not_mem_nil) t7 (d4'.keep q17.of) (len3 _ _ _ _ d4' (by rw [List.length_map]; exact Nat.le_trans (List.length_filter_le _ _) f3)) (fun G8 N8 vs8 k8 t8 e8 d8 => ?_)
    refine ⟨N8, vs8, rfl, .inl ⟨SqL.of e8, fun R4 nR4 => ?_⟩⟩
    obtain ⟨q9, t9, f9⟩ := tup_facts t8 d8 nR4
    generalize upd _ R4 (.tup _) = G9 at q9 t9 f9 ⊢
    have q79 := k8.trans q9
    refine ⟨show 5 ≤ sizeLine by decide, fun r2 nr2 => ?_⟩
    obtain ⟨qa, ta, fa⟩ := tup_facts t9 (ds := [.int (pr ps i).y, .int n, .int ((pr ps i).l - a), .tuple ((sortP (((pr ps i).na.filter (fun k : Int × Int => decide (a < k.1))).map (fun k : Int × Int => ((pr ps i).l - k.1, k.2)))).map prD), .tuple ((sortP (((pr ps i).fl.filter (fun k : Int × Int => decide (a ≤ k.1))).map (fun k : Int × Int => ((pr ps i).l - 1 - k.1, -k.2)))).map prD)]) (.cons (.int _) (.cons (.int _) (.cons (.int _) (.cons (f7.keep q79.of) (.cons f9 .nil))))) nr2
    generalize upd _ r2 (.tup _) = Ga at qa ta fa ⊢
    have kHa : Keep [] H Ga := kG.trans (kJ.trans (q17.trans (q79.trans qa)))
    have q5a : Keep [] G5 Ga := k6.trans (q7.trans (q79.trans qa))
    have dxpa : Dt av Ga (.ref ap) (.tuple (ps.map Pi.dat)) := .tup nap (kHa ap _ eap List.not_mem_nil) (dxp.keep kHa.of)
    refine ⟨.int n, rfl, _, 1, rfl, rfl, .ref ap, rfl, .int i, rfl, i, rfl, ?_⟩
    dsimp only [tNoPart]
    refine front_data dxpa ta i0 (fun Gb rb kb tb fb => ?_)
    refine ⟨.ref r1, rfl, show 1 ≤ sizeLine by decide, fun rc nrc => ?_⟩
    obtain ⟨qc, tc, fc⟩ := tup_facts tb (.cons ((f5.keep q5a.of).keep kb.of) .nil) nrc
    generalize upd _ rc (.tup _) = Gc at qc tc fc ⊢
    refine cat_data (fb.keep qc.of) fc tc (by rw [List.length_take, List.length_map]; show min _ _ + 1 ≤ 1000; omega) (fun Gd rd kd td fd' => ?_)
    have kad : Keep [] Ga Gd := kb.trans (qc.trans kd)
    refine ⟨.ref ap, rfl, .int i, rfl, i, 1, rfl, rfl, i + 1, rfl, ?_⟩
    dsimp only [tNoPart]
    refine rear_data (dxpa.keep kad.of) td (by omega) (fun Ge re ke te fe => ?_)
    refine cat_data (fd'.keep ke.of) fe te (by rw [List.length_append, List.length_take, List.length_drop, List.length_map]; show min _ _ + 1 + _ ≤ 1000; omega) (fun Gf rf kf tf ff => ?_)
    refine ⟨.ref r2, rfl, show 1 ≤ sizeLine by decide, fun rg nrg => ?_⟩
    obtain ⟨qg, tg, fg⟩ := tup_facts tf (.cons (fa.keep (kad.trans (ke.trans kf)).of) .nil) nrg
    generalize upd _ rg (.tup _) = Gg at qg tg fg ⊢
    refine cat_data (ff.keep qg.of) fg tg (by rw [List.length_append, List.length_append, List.length_take, List.length_drop, List.length_map]; show min _ _ + 1 + _ + 1 ≤ 1000; omega) (fun Gh rh kh th fh => ?_)
    refine ⟨show 2 ≤ sizeLine by decide, fun ri nri => ?_⟩
    obtain ⟨qi, ti, fi⟩ := tup_facts th (.cons (.int (n + 1)) (.cons fh .nil)) nri
    refine q _ ri (kHa.trans (kad.trans (ke.trans (kf.trans (qg.trans (kh.trans qi)))))) ti ?_
    have el : (halfP ps n i a).map Pi.dat = (ps.map Pi.dat).take i.toNat ++ [PyData.tuple [.int (pr ps i).x, .int n, .int a, .tuple (((pr ps i).na.filter (fun k : Int × Int => decide (k.1 < a))).map prD), .tuple (((pr ps i).fl.filter (fun k : Int × Int => decide (k.1 < a))).map prD)]] ++ (ps.map Pi.dat).drop (i + 1).toNat ++ [PyData.tuple [.int (pr ps i).y, .int n, .int ((pr ps i).l - a), .tuple ((sortP (((pr ps i).na.filter (fun k : Int × Int => decide (a < k.1))).map (fun k : Int × Int => ((pr ps i).l - k.1, k.2)))).map prD), .tuple ((sortP (((pr ps i).fl.filter (fun k : Int × Int => decide (a ≤ k.1))).map (fun k : Int × Int => ((pr ps i).l - 1 - k.1, -k.2)))).map prD)]] := by
      unfold halfP
      rw [List.map_append, List.map_set, List.set_eq_take_append_cons_drop, if_pos (by rw [List.length_map]; omega), show (i + 1).toNat = i.toNat + 1 by omega]
      simp only [List.append_assoc, List.cons_append, List.nil_append]; rfl
    unfold houseD
    rw [el]; exact fi
abbrev sDP : Stmt := topS 60
abbrev nDP : List Str := ["_law_house_here", "_law_pipe_here", "_law_at", "_law_place_here"]
theorem scDP : FnScope nDP ["_law_house_here", "_law_pipe_here", "_law_at", "_law_place_here"] (defScope sDP) := ⟨rfl, rfl, rfl, by decide +kernel, rfl, by decide +kernel, by decide +kernel⟩
def spDP : Sp := fun vs H Q _ => ∃ (h zv : V) (n i a : Int) (ps : List Pi) (z : Pl) (av : List Addr), vs = [h, .int i, .int a, zv] ∧ Dt av H h (houseD n (ps.map Pi.dat)) ∧ HouseOk n ps ∧ 0 ≤ i ∧ i < ps.length ∧ 1 ≤ a ∧ a ≤ (pr ps i).l - 1 ∧ Dt av H zv (tupI z) ∧ okP n ps z ∧ Tr av H ∧
  ∀ (H' : Hp) (v : V), Keep [] H H' → Tr av H' → Dt av H' v (tupI (hv ps n i a z)) → Q v H'
theorem ok_dP (h : Has K mg "_law_due_place" sDP) (B : Blt mg) : Can P w K mg base "_law_due_place" ["_law_house_here", "_law_pipe_here", "_law_at", "_law_place_here"] 1 spDP := by
  obtain ⟨f, fd, F, g⟩ := h
  refine ⟨f, fd, F.ok (k := 0) scDP (fun vs H Q E h => ?_) (fun cdv A outer s H vs Q E hr h => ?_), g, F.kp, F.binds fun _ _ _ _ _ _ us hl => match us, hl with | [_, _, _, _], _ => rfl⟩
  · obtain ⟨h, zv, n, i, a, ps, z, av, rfl, _⟩ := h
    rfl
  · obtain ⟨h, zv, n, i, a, ps, z, av, rfl, dh, hk, i0, i1, a0, a1, dz, okz, tr, q⟩ := h
    refine ⟨_, pss_cons (ps_if (PW.pt (pw_or (pt_cmpR op_eq (pe_callB call_len_seq (by rfl) B.len_ PySem.boot_len (pa_cons (pv 3) pa_nil)) pe_int (nomark _)) (pw_or (pt_cmpR op_ne (pe_ix ix_tup (pv 3) pe_int (fun _ _ => rfl)) (pv 1) (nomark _)) (pw_or1 (pt_cmpR op_lt (pe_ix ix_tup (pv 3) pe_int (fun _ _ => rfl)) (pv 2) (nomark _)))))) (pss_one (ps_ret (pv 3))) pss_nil)
      (pss_cons (ps_if (pt_cmpR op_eq (pe_ix ix_tup (pv 3) pe_int (fun _ _ => rfl)) (pv 2) (nomark _)) (pss_one (ps_ret (pe_tup (pa_cons (pe_ix ix_tup (pv 0) pe_int (fun _ _ => rfl)) pa_nil)))) pss_nil)
      (pss_one (ps_ret (pe_tup (pa_cons (pe_op op_sub (pe_ix ix_tup (pv 0) pe_int (fun _ _ => rfl)) pe_int) (pa_cons (pe_op op_sub (pe_ix ix_tup (pe_ix ix_tup (pe_ix ix_tup (pv 0) pe_int (fun _ _ => rfl)) (pv 1) (fun _ _ => rfl)) pe_int (fun _ _ => rfl)) (pe_ix ix_tup (pv 3) pe_int (fun _ _ => rfl))) pa_nil)))))), ?_⟩
    obtain ⟨ah, ap, xp, rfl, nah, eah, nap, eap, dxp⟩ := house_parts dh
    obtain ⟨b, rfl, nb, eb⟩ := tupI_at dz
    rcases ok_cases okz with ⟨r, rfl, r0, r1⟩ | ⟨j, c, rfl, k0, k1, c0, c1⟩
    · refine ⟨.ref b, rfl, b, _, rfl, .inr (SqT.of eb), rfl, _, rfl, ite2 (fun _ => ?_) (fun e => absurd rfl e)⟩
      exact ⟨.ref b, rfl, q H (.ref b) (Keep.refl _ _) tr dz⟩
    refine ⟨.ref b, rfl, b, _, rfl, .inr (SqT.of eb), rfl, _, rfl, ite2 (fun e => absurd (show ((2 : Nat) : Int) = 1 from V.int.inj (of_decide_eq_true e)) (by decide)) (fun _ => ?_)⟩
    refine ⟨.ref b, rfl, b, _, 0, .int j, rfl, rfl, SqT.of eb, atI_nat (j := 0) rfl, .int i, rfl, rfl, _, rfl, ?_⟩
    by_cases ej : j = i
    · subst ej
      refine iteNS rfl ?_
      refine ⟨.ref b, rfl, b, _, 1, .int c, rfl, rfl, SqT.of eb, atI_nat (j := 1) rfl, .int a, rfl, c, a, rfl, rfl, _, rfl, ite2 (fun e => ?_) (fun e => ?_)⟩
      · have hc : c < a := of_decide_eq_true e
        refine ⟨.ref b, rfl, q H (.ref b) (Keep.refl _ _) tr ?_⟩
        have z : hv ps n j a [j, c] = [j, c] := (if_pos rfl).trans (if_pos hc)
        rw [z]; exact dz
      have hc : ¬ c < a := fun z => e (decide_eq_true z)
      refine ⟨.ref b, rfl, b, _, 1, .int c, rfl, rfl, SqT.of eb, atI_nat (j := 1) rfl, .int a, rfl, rfl, _, rfl, ite2 (fun e => ?_) (fun e => ?_)⟩
      · have hca : c = a := V.int.inj (of_decide_eq_true e)
        refine ⟨.ref ah, rfl, ah, _, 0, .int n, rfl, rfl, SqT.of eah, atI_nat (j := 0) rfl, show 1 ≤ sizeLine by decide, fun r nr => ?_⟩
        obtain ⟨k1', t1, f1⟩ := tup_facts tr (.cons (.int n) .nil) nr
        refine q _ (.ref r) k1' t1 ?_
        have z : hv ps n j a [j, c] = [n] := (if_pos rfl).trans ((if_neg hc).trans (if_pos hca))
        rw [z]; exact f1
      have hca : c ≠ a := fun z => e (decide_eq_true (by rw [z]))
      obtain ⟨p, pa, T1, T2, mp, hp, epa, eP⟩ := pi_at dxp i0 i1
      have ep : p = pr ps j := by
        have z := (pr_mem i0 i1).2
        rw [z] at hp; exact (Option.some.inj hp).symm
      subst ep
      refine ⟨.ref ah, rfl, ah, _, 0, .int n, rfl, rfl, SqT.of eah, atI_nat (j := 0) rfl, n, 1, rfl, rfl, .ref ah, rfl, ah, _, 1, .ref ap, rfl, rfl, SqT.of eah, atI_nat (j := 1) rfl, .int j, rfl, ap, _, j, .ref pa, rfl, rfl, SqT.of eap, epa, pa, _, 2, _, rfl, rfl, SqT.of eP, atI_nat (j := 2) rfl, .ref b, rfl, b, _, 1, .int c, rfl, rfl, SqT.of eb, atI_nat (j := 1) rfl, _, _, rfl, rfl, show 2 ≤ sizeLine by decide, fun r nr => ?_⟩
      obtain ⟨k1', t1, f1⟩ := tup_facts tr (.cons (.int (n - 1)) (.cons (.int ((pr ps j).l - c)) .nil)) nr
      refine q _ (.ref r) k1' t1 ?_
      have z : hv ps n j a [j, c] = [(ps.length : Int), (pr ps j).l - c] := (if_pos rfl).trans ((if_neg hc).trans (if_neg hca))
      rw [z, show (ps.length : Int) = n - 1 from hk.len]; exact f1
    · refine ite2 (fun _ => ?_) (fun e => ?_)
      · refine ⟨.ref b, rfl, q H (.ref b) (Keep.refl _ _) tr ?_⟩
        have z : hv ps n i a [j, c] = [j, c] := if_neg ej
        rw [z]; exact dz
      · exfalso
        refine e ?_
        have : decide (V.int j = V.int i) = false := decide_eq_false fun z => ej (V.int.inj z)
        rw [this]; rfl
end
end Rw

namespace Rw
open PySem PySem.Spec PyProof.Rows L2 TL
def outD (n : Int) : List PyData := [.none, .bool true, .int (-1), .int n, .str "0", .tuple [.int 0], .list [], .dict [], .int (10 ^ 39)]
theorem outD_ok {ps : List Pi} (hl : ps.length ≤ 16) : ∀ d ∈ outD ps.length, inPs ps d = false ∧ Shw d := by
  intro d m
  simp only [outD, List.mem_cons, List.not_mem_nil, or_false] at m
  rcases m with rfl | rfl | rfl | rfl | rfl | rfl | rfl | rfl | rfl
  · exact ⟨rfl, ⟨by decide +kernel, by decide +kernel, by decide +kernel, .inl (by decide +kernel)⟩⟩
  · exact ⟨rfl, ⟨by decide +kernel, by decide +kernel, by decide +kernel, .inl (by decide +kernel)⟩⟩
  · exact ⟨Bool.eq_false_iff.mpr fun z => by have := int_within.mp z; omega, ⟨by decide +kernel, by decide +kernel, by decide +kernel, .inl (by decide +kernel)⟩⟩
  · exact ⟨Bool.eq_false_iff.mpr fun z => by have := int_within.mp z; omega, shw_int (by omega) (by omega)⟩
  · exact ⟨rfl, ⟨by decide +kernel, by decide +kernel, by decide +kernel, .inl (by decide +kernel)⟩⟩
  · exact ⟨rfl, ⟨by decide +kernel, by decide +kernel, by decide +kernel, .inl (by decide +kernel)⟩⟩
  · exact ⟨rfl, ⟨by decide +kernel, by decide +kernel, by decide +kernel, .inl (by decide +kernel)⟩⟩
  · exact ⟨rfl, ⟨by decide +kernel, by decide +kernel, by decide +kernel, .inr rfl⟩⟩
  · refine ⟨Bool.eq_false_iff.mpr fun z => ?_, ⟨by decide +kernel, by decide +kernel, by decide +kernel, .inl (by decide +kernel)⟩⟩
    have := int_within.mp z
    have e : (10 : Int) ^ 39 = 1000000000000000000000000000000000000000 := by decide
    omega
def wrongD (l : Int) : List PyData := [.none, .bool true, .int 0, .int (-1), .int l, .int (l + 1), .str "1", .tuple [.int 1], .list [], .dict [], .int (10 ^ 39)]
theorem wrongD_ok {l : Int} (l0 : 1 ≤ l) (l1 : l ≤ 1000000000000) : ∀ d ∈ wrongD l, within d 1 (l - 1) = false ∧ Shw d := by
  intro d m
  simp only [wrongD, List.mem_cons, List.not_mem_nil, or_false] at m
  rcases m with rfl | rfl | rfl | rfl | rfl | rfl | rfl | rfl | rfl | rfl | rfl
  · exact ⟨rfl, ⟨by decide +kernel, by decide +kernel, by decide +kernel, .inl (by decide +kernel)⟩⟩
  · exact ⟨rfl, ⟨by decide +kernel, by decide +kernel, by decide +kernel, .inl (by decide +kernel)⟩⟩
  · exact ⟨Bool.eq_false_iff.mpr fun z => by have := int_within.mp z; omega, shw_int (by decide) (by decide)⟩
  · exact ⟨Bool.eq_false_iff.mpr fun z => by have := int_within.mp z; omega, ⟨by decide +kernel, by decide +kernel, by decide +kernel, .inl (by decide +kernel)⟩⟩
  · exact ⟨Bool.eq_false_iff.mpr fun z => by have := int_within.mp z; omega, shw_int (by omega) (by omega)⟩
  · exact ⟨Bool.eq_false_iff.mpr fun z => by have := int_within.mp z; omega, shw_int (by omega) (by omega)⟩
  · exact ⟨rfl, ⟨by decide +kernel, by decide +kernel, by decide +kernel, .inl (by decide +kernel)⟩⟩
  · exact ⟨rfl, ⟨by decide +kernel, by decide +kernel, by decide +kernel, .inl (by decide +kernel)⟩⟩
  · exact ⟨rfl, ⟨by decide +kernel, by decide +kernel, by decide +kernel, .inl (by decide +kernel)⟩⟩
  · exact ⟨rfl, ⟨by decide +kernel, by decide +kernel, by decide +kernel, .inr rfl⟩⟩
  · refine ⟨Bool.eq_false_iff.mpr fun z => ?_, ⟨by decide +kernel, by decide +kernel, by decide +kernel, .inl (by decide +kernel)⟩⟩
    have := int_within.mp z
    have e : (10 : Int) ^ 39 = 1000000000000000000000000000000000000000 := by decide
    omega
theorem hv_short {m : Int} (ps : List Pi) (n i a : Int) {z : Pl} (h : okP m ps z) : (hv ps n i a z).length ≤ 2 := by
  rcases ok_cases h with ⟨r, rfl, _, _⟩ | ⟨j, c, rfl, _, _, _, _⟩
  · exact Nat.le_succ 1
  · show (if j = i then (if c < a then [j, c] else if c = a then [n] else [(ps.length : Int), (pr ps i).l - c]) else [j, c]).length ≤ 2
    split
    · split
      · exact Nat.le_refl 2
      · split
        · exact Nat.le_succ 1
        · exact Nat.le_refl 2
    · exact Nat.le_refl 2
section
variable {P : Program} {w : World} {K : PySem.W.Frag} {mg : Str → Option Value} {base : Heap}
abbrev sRR : Stmt := topS 62
abbrev nRR : List Str := ["_law_deck_here", "_law_house_here", "_law_place_here", "_law_pipes", "_law_odd_here", "_law_at", "_law_thing", "_law_pipe_here", "_law_wrong"]
theorem scRR : FnScope nRR ["_law_deck_here", "_law_house_here", "_law_place_here"] (defScope sRR) := ⟨rfl, rfl, rfl, by decide +kernel, rfl, by decide +kernel, by decide +kernel⟩
def spRR : Sp := fun vs H Q _ => ∃ (D C R : Addr) (h zv : V) (b n : Int) (ps : List Pi) (z : Pl), vs = [.ref D, h, zv] ∧ Dt [D, R] H h (houseD n (ps.map Pi.dat)) ∧ okH n ps ∧ Dt [D, R] H zv (tupI z) ∧ okP n ps z ∧ Deck H D C R b ∧ b ≤ 500000000 ∧
  ∀ H' : Hp, Keep [D, R] H H' → Deck H' D C R (b + 20) → Q (.bl true) H'
theorem ok_rR (h : Has K mg "_law_refused_right" sRR) (B : Blt mg) (CN : Can P w K mg base "_law_next" ["_law_deck_here", "_law_many"] 1 spNext) (CO : Can P w K mg base "_law_one" ["_law_deck_here", "_law_some"] 2 spOne) (CU : Can P w K mg base "_law_odd" ["_law_deck_here"] 2 spOdd) (CS : Can P w K mg base "_law_same" ["_law_found", "_law_due_here"] 7 (spSameS 6)) (CT : CanG P w K mg base "_law_told" ["_law_house_here", "_law_pipe_here", "_law_at", "_law_place_here"] 6 spTold) : CanG P w K mg base "_law_refused_right" ["_law_deck_here", "_law_house_here", "_law_place_here"] 8 spRR := by
  obtain ⟨f, fd, F, g⟩ := h
  refine ⟨f, fd, fnG_of (k := 7) F scRR (fun vs H Q E h => ?_) (fun cdv A outer s H vs Q E hr hg h => ?_), g, F.kp, F.binds fun _ _ _ _ _ _ us hl => match us, hl with | [_, _, _], _ => rfl⟩
  · obtain ⟨D, C, R, h, zv, b, n, ps, z, rfl, _⟩ := h
    rfl
  · obtain ⟨D, C, R, h, zv, b, n, ps, z, rfl, dh, ok, dz, okz, dk, hb, q⟩ := h
    refine ⟨_, PSs.nox (pss_cons (ps_set (i := 3) scRR.nd rfl (by first | exact Or.inl rfl | exact Or.inr rfl) (pe_ix ix_tup (pv 1) pe_int (fun _ _ => rfl)))
      (pss_cons (ps_set (i := 4) scRR.nd rfl (by first | exact Or.inl rfl | exact Or.inr rfl) (pe_can CO (hr.mono (by decide)) (by rfl) (pa_cons (pv 0) (pa_cons (pe_lst (pa_cons pe_non (pa_cons pe_bl (pa_cons (pe_un un_neg pe_int) (pa_cons (pe_callB call_len_seq (by rfl) B.len_ PySem.boot_len (pa_cons (pv 3) pa_nil)) (pa_cons pe_str (pa_cons (pe_tup (pa_cons pe_int pa_nil)) (pa_cons (pe_lst pa_nil) (pa_cons pe_dnewK (pa_cons (pe_op op_pow pe_int pe_int) pa_nil)))))))))) pa_nil))))
      (pss_cons (ps_for PassesOwn.never rfl (pi_list (pe_lst (pa_cons pe_int (pa_cons pe_non (pa_cons (pe_can CU (hr.mono (by decide)) (by rfl) (pa_cons (pv 0) pa_nil)) pa_nil))))) (pg_name (i := 5) scRR.nd rfl (by first | exact Or.inl rfl | exact Or.inr rfl))
      (pss_one (ps_for PassesOwn.never rfl (pi_list (pe_lst (pa_cons pe_non (pa_cons (pv 2) pa_nil)))) (pg_name (i := 6) scRR.nd rfl (by first | exact Or.inl rfl | exact Or.inr rfl))
      (pss_one (ps_if (pt_not (pt_val (pe_can CS (hr.mono (by decide)) (by rfl) (pa_cons (pe_canG CT (hr.mono (by decide)) hg (by rfl) (pa_cons (pv 1) (pa_cons (pv 4) (pa_cons (pv 5) (pa_cons (pv 6) pa_nil))))) (pa_cons (pe_lst (pa_cons pe_str (pa_cons (pe_callB (cr_reprA hg (units70 hr)) (by rfl) B.repr_ boot_repr (pa_cons (pv 4) pa_nil)) (pa_cons pe_bl pa_nil)))) pa_nil))))) (pss_one (ps_ret pe_bl)) pss_nil)))))
      (pss_cons (ps_if (pt_cmpR (op_eqD hr.units) (pv 3) (pe_tup pa_nil) (nomark _)) (pss_one (ps_ret pe_bl)) pss_nil)
      (pss_cons (ps_set (i := 7) scRR.nd rfl (by first | exact Or.inl rfl | exact Or.inr rfl) (pe_can CN (hr.mono (by decide)) (by rfl) (pa_cons (pv 0) (pa_cons (pe_callB call_len_seq (by rfl) B.len_ PySem.boot_len (pa_cons (pv 3) pa_nil)) pa_nil))))
      (pss_cons (ps_set (i := 8) scRR.nd rfl (by first | exact Or.inl rfl | exact Or.inr rfl) (pe_can CO (hr.mono (by decide)) (by rfl) (pa_cons (pv 0) (pa_cons (pe_lst (pa_cons pe_non (pa_cons pe_bl (pa_cons pe_int (pa_cons (pe_un un_neg pe_int) (pa_cons (pe_ix ix_tup (pe_ix ix_tup (pv 3) (pv 7) (fun _ _ => rfl)) pe_int (fun _ _ => rfl)) (pa_cons (pe_op op_add (pe_ix ix_tup (pe_ix ix_tup (pv 3) (pv 7) (fun _ _ => rfl)) pe_int (fun _ _ => rfl)) pe_int) (pa_cons pe_str (pa_cons (pe_tup (pa_cons pe_int pa_nil)) (pa_cons (pe_lst pa_nil) (pa_cons pe_dnewK (pa_cons (pe_op op_pow pe_int pe_int) pa_nil)))))))))))) pa_nil))))
      (pss_cons (ps_for PassesOwn.never rfl (pi_list (pe_lst (pa_cons pe_non (pa_cons (pv 2) pa_nil)))) (pg_name (i := 6) scRR.nd rfl (by first | exact Or.inl rfl | exact Or.inr rfl))
      (pss_one (ps_if (pt_not (pt_val (pe_can CS (hr.mono (by decide)) (by rfl) (pa_cons (pe_canG CT (hr.mono (by decide)) hg (by rfl) (pa_cons (pv 1) (pa_cons (pv 7) (pa_cons (pv 8) (pa_cons (pv 6) pa_nil))))) (pa_cons (pe_lst (pa_cons pe_str (pa_cons (pe_callB (cr_reprA hg (units70 hr)) (by rfl) B.repr_ boot_repr (pa_cons (pv 8) pa_nil)) (pa_cons pe_bl pa_nil)))) pa_nil))))) (pss_one (ps_ret pe_bl)) pss_nil)))
      (pss_one (ps_ret pe_bl))))))))), ?_⟩
    have hk := ok.hk
    have n16 := ok.n16
    have ln := ok.len
    obtain ⟨ah, ap, xp, rfl, nah, eah, nap, eap, dxp⟩ := house_parts dh
    obtain ⟨pl, rfl, npl, epl⟩ := tupI_at dz
    have lx : xp.length = ps.length := by rw [dxp.len, List.length_map]
    have l16 : ps.length ≤ 16 := by omega
    refine ⟨.ref ah, rfl, ah, _, 1, .ref ap, rfl, rfl, SqT.of eah, atI_nat (j := 1) rfl, ?_⟩
    refine ⟨.ref D, rfl, ?_⟩
    refine ⟨_, rfl, .ref ap, rfl, ap, _, rfl, .inr (SqT.of eap), show 1 ≤ sizeLine by decide, fun rx0 nrx0 => ?_⟩
    obtain ⟨krx0, trx0, frx0⟩ := tup_facts dk.tr (ds := [(.int 0 : PyData)]) (.cons (.int 0) .nil) nrx0
    generalize upd _ rx0 (.tup _) = Jx0 at krx0 trx0 frx0 ⊢
    refine ⟨show 0 ≤ sizeLine by decide, fun rx1 nrx1 => ?_⟩
    obtain ⟨krx1, trx1, frx1⟩ := lst_facts trx0 (ds := []) .nil nrx1
    generalize upd _ rx1 (.lst _) = Jx1 at krx1 trx1 frx1 ⊢
    intro rx2 nrx2
    obtain ⟨krx2, trx2, frx2⟩ := dct_facts trx1 nrx2
    generalize upd _ rx2 (.dK _) = Jx2 at krx2 trx2 frx2 ⊢
    refine ⟨10, 39, rfl, rfl, ⟨by decide, by decide, by decide⟩, show 9 ≤ sizeLine by decide, fun xL nxL => ?_⟩
    have dx : Dts [D, R] Jx2 [.non, .bl true, .int (-1), .int (xp.length : Int), .str "0", .ref rx0, .ref rx1, .ref rx2, .int (10 ^ (39 : Int).toNat)] [(.none : PyData), .bool true, .int (-1), .int (xp.length : Int), .str "0", .tuple [.int 0], .list [], .dict [], .int (10 ^ 39)] := (.cons .non (.cons (.bl true) (.cons (.int (-1)) (.cons (.int _) (.cons (.str _) (.cons ((frx0.keep krx1.of).keep krx2.of) (.cons (frx1.keep krx2.of) (.cons frx2 (.cons (.int _) .nil)))))))))
    have kx : Keep [] H Jx2 := (krx0.trans (krx1.trans krx2))
    have tx : Tr [D, R] Jx2 := trx2
    have kL := Keep.new (av := []) (o := .lst [.non, .bl true, .int (-1), .int (xp.length : Int), .str "0", .ref rx0, .ref rx1, .ref rx2, .int (10 ^ (39 : Int).toNat)]) nxL
    have eL : (upd Jx2 xL (.lst [.non, .bl true, .int (-1), .int (xp.length : Int), .str "0", .ref rx0, .ref rx1, .ref rx2, .int (10 ^ (39 : Int).toNat)])) xL = some (.lst [.non, .bl true, .int (-1), .int (xp.length : Int), .str "0", .ref rx0, .ref rx1, .ref rx2, .int (10 ^ (39 : Int).toNat)]) := upd_same
    have hL := (dk.keep kx).ne nxL
    have dkL := (dk.keep kx).keep kL
    refine ⟨D, C, R, xL, b, _, rfl, eL, show 1 ≤ 9 by decide, show 9 ≤ 1000 by decide, hL.1, hL.2.2, dkL, by omega, fun J ix xv kJ dkJ gx => ?_⟩
    obtain ⟨dp, gd, dxv⟩ := ((dx.keep kL.of).keep kJ).getv ix gx
    have mdp : dp ∈ outD ps.length := by have := List.mem_of_getElem? gd; rw [lx] at this; exact this
    obtain ⟨hin, s1⟩ := outD_ok l16 dp mdp
    have kHJ : Keep [D, R] H J := ((kx.trans kL).of).trans kJ
    refine ⟨.ref D, rfl, D, C, R, _, rfl, dkJ, by omega, fun J1 ov od kJ1 dkJ1 dov modd => ?_⟩
    have kHJ1 := kHJ.trans kJ1
    have dh1 := dh.keep kHJ1
    have dz1 := dz.keep kHJ1
    have dxv1 := dxv.keep kJ1
    refine ⟨show 3 ≤ sizeLine by decide, fun LA nLA => ?_⟩
    have kA := Keep.new (av := []) (o := .lst [.int 1, .non, ov]) nLA
    have eA : (upd J1 LA (.lst [.int 1, .non, ov])) LA = some (.lst [.int 1, .non, ov]) := upd_same
    have dkA := dkJ1.keep kA
    have dA : Dts [D, R] (upd J1 LA (.lst [.int 1, .non, ov])) [.int 1, .non, ov] [.int 1, .none, od] := (Dts.cons (.int 1) (.cons .non (.cons dov .nil))).keep kA.of
    have dh2 := dh1.keep kA.of
    have dz2 := dz1.keep kA.of
    have dxv2 := dxv1.keep kA.of
    generalize upd J1 LA (.lst [.int 1, .non, ov]) = JA at kA eA dkA dA dh2 dz2 dxv2 ⊢
    refine ⟨LA, rfl, ⟨_, SqL.of eA⟩, for_list (K := K) (a := LA) (xs := [.int 1, .non, ov]) (fun t σ G => ∃ s5 s6 s7 s8, σ = [some (.ref D), some (.ref ah), some (.ref pl), some (.ref ap), some xv, s5, s6, s7, s8] ∧ Keep [] JA G) ⟨_, _, _, _, rfl, Keep.refl _ _⟩ (fun t σ G _ z => ?_) (fun t y σ G hy z => ?_) (fun σ G z => ?_)⟩
    · obtain ⟨_, _, _, _, _, kG⟩ := z
      exact SqL.of (kG LA _ eA List.not_mem_nil)
    · obtain ⟨s5, s6, s7, s8, rfl, kG⟩ := z
      obtain ⟨da, gda, dyv⟩ := dA.getv t hy
      have s2 : Shw da := by
        have := List.mem_of_getElem? gda
        simp only [List.mem_cons, List.not_mem_nil, or_false] at this
        rcases this with rfl | rfl | rfl
        · exact shw_int (by decide) (by decide)
        · exact odd7_shw _ (by simp [odd7])
        · exact odd7_shw _ modd
      refine ⟨.ref pl, rfl, show 2 ≤ sizeLine by decide, fun LB nLB => ?_⟩
      have kB := Keep.new (av := []) (o := .lst [.non, .ref pl]) nLB
      have eB : (upd G LB (.lst [.non, .ref pl])) LB = some (.lst [.non, .ref pl]) := upd_same
      generalize upd G LB (.lst [.non, .ref pl]) = GB at kB eB ⊢
      refine ⟨LB, rfl, ⟨_, SqL.of eB⟩, for_list (K := K) (a := LB) (xs := [.non, .ref pl]) (fun u σ N => ∃ s6 s7 s8, σ = [some (.ref D), some (.ref ah), some (.ref pl), some (.ref ap), some xv, some y, s6, s7, s8] ∧ Keep [] GB N) ⟨_, _, _, rfl, Keep.refl _ _⟩ (fun u σ N _ z => ?_) (fun u w σ N hw z => ?_) (fun σ N z => ?_)⟩
      · obtain ⟨_, _, _, _, kN⟩ := z
        exact SqL.of (kN LB _ eB List.not_mem_nil)
      · obtain ⟨s6, s7, s8, rfl, kN⟩ := z
        have kk : Keep [] JA N := kG.trans (kB.trans kN)
        have hz : ∃ zo, zoOk n ps [D, R] N w zo := by
          have := List.mem_of_getElem? hw
          simp only [List.mem_cons, List.not_mem_nil, or_false] at this
          rcases this with rfl | rfl
          · exact ⟨none, .inl ⟨rfl, rfl⟩⟩
          · exact ⟨some z, .inr ⟨z, dz2.keep kk.of, okz, rfl⟩⟩
        obtain ⟨zo, hz⟩ := hz
        refine ⟨.ref ah, rfl, xv, rfl, y, rfl, w, rfl, .ref ah, xv, y, w, n, ps, dp, da, zo, [D, R], [D, R], rfl, dh2.keep kk.of, hk, dxv2.keep kk.of, s1, dyv.keep kk.of, s2, hz, dkA.tr.k0 kk, fun N1 fa k1 t1 e1 => ?_⟩
        rw [htd1 hin] at e1
        refine ⟨xv, rfl, xv, _, [D, R], rfl, (dxv2.keep kk.of).keep k1.of, s1, show 3 ≤ sizeLine by decide, fun r nr => ?_⟩
        obtain ⟨k2, t2, e2⟩ := lst_facts t1 (ds := [.str "pipe", .str dp.shown, .bool false]) (.cons (.str _) (.cons (.str _) (.cons (.bl _) .nil))) nr
        refine ⟨.ref fa, .ref r, saidD "pipe" dp.shown, rfl, (e1.keep k2.of).nil, e2.nil, is_said _ _, fun N2 k3 => ⟨_, rfl, iteF ?_⟩⟩
        exact ⟨_, _, _, rfl, kN.trans (k1.trans (k2.trans k3))⟩
      obtain ⟨s6, s7, s8, rfl, kN⟩ := z
      exact ⟨_, _, _, _, rfl, kG.trans (kB.trans kN)⟩
    obtain ⟨s5, s6, s7, s8, rfl, kG⟩ := z
    have eapG := (kA.trans kG) ap _ (kHJ1 ap _ eap nap) List.not_mem_nil
    have dxpG : Dts [D, R] G xp (ps.map Pi.dat) := (dxp.keep kHJ1).keep (kA.trans kG).of
    refine ⟨.ref ap, rfl, show 0 ≤ sizeLine by decide, fun c nc => ?_⟩
    have kc := Keep.new (av := []) (o := .tup []) nc
    refine ⟨.tuple (ps.map Pi.dat), .tuple [], L2.Dp.tup (SqT.of (kc ap _ eapG List.not_mem_nil)) (Dts.dp _ _ (dxpG.keep kc.of) (lay_pis ps)), .tup (SqT.of upd_same) .nil, shaped_of (by simp only [PyData.canLay0]; exact lay_pis ps) (by have := pis_depth ps; simp only [PyData.depth]; omega), by decide, _, rfl, ?_⟩
    generalize upd G c (.tup []) = Gc at kc ⊢
    have kAc := kG.trans kc
    rw [eqv_nil]
    refine ite2 (fun e => ?_) (fun e => ?_)
    · exact q Gc ((kHJ1.trans kA.of).trans kAc.of) ((dkA.keep kAc).mono (by omega))
    have pos : 0 < ps.length := by
      cases ps with
      | nil => exact absurd rfl e
      | cons _ _ => exact Nat.succ_pos _
    have eapc := kc ap _ eapG List.not_mem_nil
    refine ⟨.ref D, rfl, .ref ap, rfl, ap, _, rfl, .inr (SqT.of eapc), D, C, R, _, _, rfl, by omega, by omega, dkA.keep kAc, by omega, fun M i kM dkM i0 i1 => ?_⟩
    have eapM := kM ap _ eapc nap
    have dxpM := (dxpG.keep kc.of).keep kM
    obtain ⟨p, pa, T1, T2, mp, hp, epa, eP⟩ := pi_at dxpM i0 (by omega : i < ps.length)
    have ep : p = pr ps i := by
      have z := (pr_mem i0 (by omega : i < ps.length)).2
      rw [z] at hp; exact (Option.some.inj hp).symm
    subst ep
    have l1 := (ok.ok _ mp).fit.l1
    have l2 := (ok.ok _ mp).fit.l2
    have dhM := (dh2.keep kAc.of).keep kM
    have dzM := (dz2.keep kAc.of).keep kM
    refine ⟨.ref D, rfl, ?_⟩
    refine ⟨_, rfl, .ref ap, rfl, .int i, rfl, ap, _, i, .ref pa, rfl, rfl, SqT.of eapM, epa, pa, _, 2, _, rfl, rfl, SqT.of eP, atI_nat (j := 2) rfl, .ref ap, rfl, .int i, rfl, ap, _, i, .ref pa, rfl, rfl, SqT.of eapM, epa, pa, _, 2, _, rfl, rfl, SqT.of eP, atI_nat (j := 2) rfl, _, 1, rfl, rfl, show 1 ≤ sizeLine by decide, fun ry0 nry0 => ?_⟩
    obtain ⟨kry0, try0, fry0⟩ := tup_facts dkM.tr (ds := [(.int 1 : PyData)]) (.cons (.int 1) .nil) nry0
    generalize upd _ ry0 (.tup _) = Jy0 at kry0 try0 fry0 ⊢
    refine ⟨show 0 ≤ sizeLine by decide, fun ry1 nry1 => ?_⟩
    obtain ⟨kry1, try1, fry1⟩ := lst_facts try0 (ds := []) .nil nry1
    generalize upd _ ry1 (.lst _) = Jy1 at kry1 try1 fry1 ⊢
    intro ry2 nry2
    obtain ⟨kry2, try2, fry2⟩ := dct_facts try1 nry2
    generalize upd _ ry2 (.dK _) = Jy2 at kry2 try2 fry2 ⊢
    refine ⟨10, 39, rfl, rfl, ⟨by decide, by decide, by decide⟩, show 11 ≤ sizeLine by decide, fun yL nyL => ?_⟩
    have dy : Dts [D, R] Jy2 [.non, .bl true, .int 0, .int (-1), .int (pr ps i).l, .int ((pr ps i).l + 1), .str "1", .ref ry0, .ref ry1, .ref ry2, .int (10 ^ (39 : Int).toNat)] [(.none : PyData), .bool true, .int 0, .int (-1), .int (pr ps i).l, .int ((pr ps i).l + 1), .str "1", .tuple [.int 1], .list [], .dict [], .int (10 ^ 39)] := (.cons .non (.cons (.bl true) (.cons (.int 0) (.cons (.int (-1)) (.cons (.int _) (.cons (.int _) (.cons (.str _) (.cons ((fry0.keep kry1.of).keep kry2.of) (.cons (fry1.keep kry2.of) (.cons fry2 (.cons (.int _) .nil)))))))))))
    have ky : Keep [] M Jy2 := (kry0.trans (kry1.trans kry2))
    have ty : Tr [D, R] Jy2 := try2
    have kL2 := Keep.new (av := []) (o := .lst [.non, .bl true, .int 0, .int (-1), .int (pr ps i).l, .int ((pr ps i).l + 1), .str "1", .ref ry0, .ref ry1, .ref ry2, .int (10 ^ (39 : Int).toNat)]) nyL
    have eL2 : (upd Jy2 yL (.lst [.non, .bl true, .int 0, .int (-1), .int (pr ps i).l, .int ((pr ps i).l + 1), .str "1", .ref ry0, .ref ry1, .ref ry2, .int (10 ^ (39 : Int).toNat)])) yL = some (.lst [.non, .bl true, .int 0, .int (-1), .int (pr ps i).l, .int ((pr ps i).l + 1), .str "1", .ref ry0, .ref ry1, .ref ry2, .int (10 ^ (39 : Int).toNat)]) := upd_same
    have hL2 := (dkM.keep ky).ne nyL
    have dkL2 := (dkM.keep ky).keep kL2
    refine ⟨D, C, R, yL, _, _, rfl, eL2, show 1 ≤ 11 by decide, show 11 ≤ 1000 by decide, hL2.1, hL2.2.2, dkL2, by omega, fun JB iy yv kJB dkJB gy => ?_⟩
    obtain ⟨da, gda, dyv⟩ := ((dy.keep kL2.of).keep kJB).getv iy gy
    have mda : da ∈ wrongD (pr ps i).l := List.mem_of_getElem? gda
    obtain ⟨hb', s2⟩ := wrongD_ok l1 l2 da mda
    have kMJ : Keep [D, R] M JB := ((ky.trans kL2).of).trans kJB
    clear dh2 dz2 dxv2 eA dA dkA
    have dh2 := dhM.keep kMJ
    have dz2 := dzM.keep kMJ
    have dkA := dkJB
    have kall : Keep [D, R] H JB := ((kHJ1.trans kA.of).trans kAc.of).trans (kM.trans kMJ)
    clear kA
    generalize JB = JA at *
    refine ⟨.ref pl, rfl, show 2 ≤ sizeLine by decide, fun LB nLB => ?_⟩
    have kB := Keep.new (av := []) (o := .lst [.non, .ref pl]) nLB
    have eB : (upd JA LB (.lst [.non, .ref pl])) LB = some (.lst [.non, .ref pl]) := upd_same
    generalize upd JA LB (.lst [.non, .ref pl]) = GB at kB eB ⊢
    refine ⟨LB, rfl, ⟨_, SqL.of eB⟩, for_list (K := K) (a := LB) (xs := [.non, .ref pl]) (fun u σ N => ∃ s6 s5, σ = [some (.ref D), some (.ref ah), some (.ref pl), some (.ref ap), some xv, s5, s6, some (.int i), some yv] ∧ Keep [] GB N) ⟨_, _, rfl, Keep.refl _ _⟩ (fun u σ N _ z => ?_) (fun u w σ N hw z => ?_) (fun σ N z => ?_)⟩
    · obtain ⟨_, _, _, kN⟩ := z
      exact SqL.of (kN LB _ eB List.not_mem_nil)
    · obtain ⟨s6, s5, rfl, kN⟩ := z
      have kk : Keep [] JA N := (Keep.refl [] JA).trans (kB.trans kN)
      have hz : ∃ zo, zoOk n ps [D, R] N w zo := by
        have := List.mem_of_getElem? hw
        simp only [List.mem_cons, List.not_mem_nil, or_false] at this
        rcases this with rfl | rfl
        · exact ⟨none, .inl ⟨rfl, rfl⟩⟩
        · exact ⟨some z, .inr ⟨z, dz2.keep kk.of, okz, rfl⟩⟩
      obtain ⟨zo, hz⟩ := hz
      refine ⟨.ref ah, rfl, .int i, rfl, yv, rfl, w, rfl, .ref ah, .int i, yv, w, n, ps, .int i, da, zo, [D, R], [D, R], rfl, dh2.keep kk.of, hk, .int i, shw_int i0 (by omega), dyv.keep kk.of, s2, hz, dkA.tr.k0 kk, fun N1 fa k1 t1 e1 => ?_⟩
      rw [htd2 i0 (by omega) hb'] at e1
      refine ⟨yv, rfl, yv, _, [D, R], rfl, (dyv.keep kk.of).keep k1.of, s2, show 3 ≤ sizeLine by decide, fun r nr => ?_⟩
      obtain ⟨k2, t2, e2⟩ := lst_facts t1 (ds := [.str "at", .str da.shown, .bool false]) (.cons (.str _) (.cons (.str _) (.cons (.bl _) .nil))) nr
      refine ⟨.ref fa, .ref r, saidD "at" da.shown, rfl, (e1.keep k2.of).nil, e2.nil, is_said _ _, fun N2 k3 => ⟨_, rfl, iteF ?_⟩⟩
      exact ⟨_, _, rfl, kN.trans (k1.trans (k2.trans k3))⟩
    obtain ⟨s6, s5, rfl, kN⟩ := z
    exact q N (kall.trans (kB.trans kN).of) ((dkA.keep (kB.trans kN)).mono (by omega))
abbrev sHR : Stmt := topS 63
abbrev nHR : List Str := ["_law_deck_here", "_law_house_here", "_law_pipe_here", "_law_at", "_law_due_here", "_law_k", "_law_known", "_law_place_here", "_law_where", "_law_there"]
theorem scHR : FnScope nHR ["_law_deck_here", "_law_house_here", "_law_pipe_here", "_law_at"] (defScope sHR) := ⟨rfl, rfl, rfl, by decide +kernel, rfl, by decide +kernel, by decide +kernel⟩
def spHR : Sp := fun vs H Q _ => ∃ (D C R : Addr) (h : V) (b n i a : Int) (ps : List Pi), vs = [.ref D, h, .int i, .int a] ∧ Dt [D, R] H h (houseD n (ps.map Pi.dat)) ∧ okH n ps ∧ 0 ≤ i ∧ i < ps.length ∧ 1 ≤ a ∧ a ≤ (pr ps i).l - 1 ∧ Deck H D C R b ∧ b ≤ 500000000 ∧
  ∀ H' : Hp, Keep [D, R] H H' → Deck H' D C R (b + 40) → Q (.bl true) H'
theorem ok_hR (h : Has K mg "_law_halved_right" sHR) (B : Blt mg) (mz : mg "zip" = none) (CP : Can P w K mg base "_law_place" ["_law_deck_here", "_law_house_here"] 4 spPlaceL) (CD : Can P w K mg base "_law_due" ["_law_house_here", "_law_pipe_here", "_law_at"] 1 spDue) (CDP : Can P w K mg base "_law_due_place" ["_law_house_here", "_law_pipe_here", "_law_at", "_law_place_here"] 1 spDP) (CM : Can P w K mg base "_law_named" ["_law_house_here", "_law_pipe_here", "_law_at"] 1 spNamed) (CI : Can P w K mg base "is_house" ["thing"] 6 spIH) (CIP : Can P w K mg base "is_place" ["house", "thing"] 3 spPlaceP) (CQ : Can P w K mg base "distance_of" ["house", "one", "other"] 4 spDist) (CS : Can P w K mg base "_law_same" ["_law_found", "_law_due_here"] 7 (spSameS 6)) (CT : CanG P w K mg base "_law_told" ["_law_house_here", "_law_pipe_here", "_law_at", "_law_place_here"] 6 spTold) : CanG P w K mg base "_law_halved_right" ["_law_deck_here", "_law_house_here", "_law_pipe_here", "_law_at"] 8 spHR := by
  obtain ⟨f, fd, F, g⟩ := h
  refine ⟨f, fd, fnG_of (k := 7) F scHR (fun vs H Q E h => ?_) (fun cdv A outer s H vs Q E hr hg h => ?_), g, F.kp, F.binds fun _ _ _ _ _ _ us hl => match us, hl with | [_, _, _, _], _ => rfl⟩
  · obtain ⟨D, C, R, h, b, n, i, a, ps, rfl, _⟩ := h
    rfl
  · obtain ⟨D, C, R, h, b, n, i, a, ps, rfl, dh, ok, i0, i1, a0, a1, dk, hb, q⟩ := h
    refine ⟨_, PSs.nox (pss_cons (ps_if (pt_cmpR op_eq (pe_ix ix_tup (pv 1) pe_int (fun _ _ => rfl)) pe_int (nomark _)) (pss_one (ps_ret (pe_can CS (hr.mono (by decide)) (by rfl) (pa_cons (pe_canG CT (hr.mono (by decide)) hg (by rfl) (pa_cons (pv 1) (pa_cons (pv 2) (pa_cons (pv 3) (pa_cons pe_non pa_nil))))) (pa_cons (pe_lst (pa_cons pe_str (pa_cons pe_str (pa_cons pe_bl pa_nil)))) pa_nil))))) pss_nil)
      (pss_cons (ps_set (i := 4) scHR.nd rfl (by first | exact Or.inl rfl | exact Or.inr rfl) (pe_can CD (hr.mono (by decide)) (by rfl) (pa_cons (pv 1) (pa_cons (pv 2) (pa_cons (pv 3) pa_nil)))))
      (pss_cons (ps_if (PW.pt (pw_or (pt_not (pt_val (pe_can CS (hr.mono (by decide)) (by rfl) (pa_cons (pe_canG CT (hr.mono (by decide)) hg (by rfl) (pa_cons (pv 1) (pa_cons (pv 2) (pa_cons (pv 3) (pa_cons pe_non pa_nil))))) (pa_cons (pe_lst (pa_cons pe_str (pa_cons (pv 4) pa_nil))) pa_nil))))) (pw_or1 (pt_not (pt_val (pe_can CI (hr.mono (by decide)) (by rfl) (pa_cons (pv 4) pa_nil))))))) (pss_one (ps_ret pe_bl)) pss_nil)
      (pss_cons (ps_set (i := 6) scHR.nd rfl (by first | exact Or.inl rfl | exact Or.inr rfl) (pe_op op_cat (pe_lc (own := [("_law_k", 5)]) (g := gName 5) (tt := tYes) rfl scHR.nd (pi_range1 (by rfl) B.range_ (pa_cons pe_int pa_nil)) (blkOk_by (N := nHR) (sc := defScope sHR) (by decide +kernel)) (fun _ _ _ _ _ => (pg_name (i := 5) scHR.nd rfl (by first | exact Or.inl rfl | exact Or.inr rfl))) (fun _ _ _ _ _ => pts_nil) (fun _ _ _ _ _ => (pe_can CP (hr.mono (by decide)) (by rfl) (pa_cons (pv 0) (pa_cons (pv 1) pa_nil))))) (pe_lst (pa_cons (pe_tup (pa_cons (pv 2) (pa_cons (pv 3) pa_nil))) (pa_cons (pe_can CM (hr.mono (by decide)) (by rfl) (pa_cons (pv 1) (pa_cons (pv 2) (pa_cons (pe_op op_add (pv 3) pe_int) pa_nil)))) pa_nil)))))
      (pss_cons (ps_setLc (i := 8) (own := [("_law_place_here", 7)]) (g := gName 7) (tt := tYes) rfl scHR.nd rfl rfl (sw_true rfl rfl rfl (by decide +kernel)) (pi_list (pv 6)) (blkOk_by (N := nHR) (sc := defScope sHR) (by decide +kernel)) (fun _ _ _ _ _ => (pg_name (i := 7) scHR.nd rfl (by first | exact Or.inl rfl | exact Or.inr rfl))) (fun _ _ _ _ _ => pts_nil) (fun _ _ _ _ _ => (pe_can CDP (hr.mono (by decide)) (by rfl) (pa_cons (pv 1) (pa_cons (pv 2) (pa_cons (pv 3) (pa_cons (pv 7) pa_nil)))))))
      (pss_cons (ps_for PassesOwn.never rfl (pi_zip (by rfl) mz (pa_cons (pv 6) (pa_cons (pv 8) pa_nil))) (pg_tup (by rfl) (pgs_cons (pg_name (i := 7) scHR.nd rfl (by first | exact Or.inl rfl | exact Or.inr rfl)) (pgs_cons (pg_name (i := 9) scHR.nd rfl (by first | exact Or.inl rfl | exact Or.inr rfl)) pgs_nil)))
      (pss_cons (ps_if (PW.pt (pw_or (pt_not (pt_val (pe_can CS (hr.mono (by decide)) (by rfl) (pa_cons (pe_canG CT (hr.mono (by decide)) hg (by rfl) (pa_cons (pv 1) (pa_cons (pv 2) (pa_cons (pv 3) (pa_cons (pv 7) pa_nil))))) (pa_cons (pe_lst (pa_cons pe_str (pa_cons (pv 9) pa_nil))) pa_nil))))) (pw_or1 (pt_not (pt_val (pe_can CIP (hr.mono (by decide)) (by rfl) (pa_cons (pv 4) (pa_cons (pv 9) pa_nil)))))))) (pss_one (ps_ret pe_bl)) pss_nil)
      (pss_one (ps_if (pt_not (pt_val (pe_can CS (hr.mono (by decide)) (by rfl) (pa_cons (pe_can CQ (hr.mono (by decide)) (by rfl) (pa_cons (pv 4) (pa_cons (pv 9) (pa_cons (pe_ix ix_list (pv 8) pe_int (fun _ _ => rfl)) pa_nil)))) (pa_cons (pe_can CQ (hr.mono (by decide)) (by rfl) (pa_cons (pv 1) (pa_cons (pv 7) (pa_cons (pe_ix ix_list (pv 6) pe_int (fun _ _ => rfl)) pa_nil)))) pa_nil))))) (pss_one (ps_ret pe_bl)) pss_nil))))
      (pss_one (ps_ret pe_bl)))))))), ?_⟩
    have hk := ok.hk
    have n1 := ok.n1
    have n16 := ok.n16
    have ln := ok.len
    have l16 : ps.length ≤ 16 := by omega
    have mD : D ∈ [D, R] := List.mem_cons_self
    have mR : R ∈ [D, R] := List.mem_cons_of_mem _ List.mem_cons_self
    have l2 := (ok.ok _ (pr_mem i0 i1).1).fit.l2
    have s1 : Shw (.int i) := shw_int i0 (by omega)
    have s2 : Shw (.int a) := shw_int (by omega) (by omega)
    obtain ⟨ah, ap, xp, rfl, nah, eah, nap, eap, dxp⟩ := house_parts dh
    refine ⟨.ref ah, rfl, ah, _, 0, .int n, rfl, rfl, SqT.of eah, atI_nat (j := 0) rfl, rfl, _, rfl, ite2 (fun e => ?_) (fun e => ?_)⟩
    · have en : n = 16 := V.int.inj (of_decide_eq_true e)
      refine ⟨.ref ah, rfl, .int i, rfl, .int a, rfl, .ref ah, .int i, .int a, .non, n, ps, .int i, .int a, none, [D, R], [D, R], rfl, dh, hk, .int i, s1, .int a, s2, .inl ⟨rfl, rfl⟩, dk.tr, fun N1 fa k1 t1 e1 => ?_⟩
      rw [htd3 i0 i1 a0 a1 (by omega)] at e1
      refine ⟨show 3 ≤ sizeLine by decide, fun r nr => ?_⟩
      obtain ⟨k2, t2, e2⟩ := lst_facts t1 (ds := [.str "full", .str "rooms", .bool false]) (.cons (.str _) (.cons (.str _) (.cons (.bl _) .nil))) nr
      refine ⟨.ref fa, .ref r, saidD "full" "rooms", rfl, (e1.keep k2.of).nil, e2.nil, is_said _ _, fun N2 k3 => ?_⟩
      have kk := k1.trans (k2.trans k3)
      exact q N2 kk.of ((dk.keep kk).mono (by omega))
    have hn : n < 16 := by
      have : n ≠ 16 := fun z => e (decide_eq_true (by rw [z]))
      omega
    have ok2 := okH_half ok hn i0 i1 a0 a1
    have S := half_of (by omega : 0 ≤ n) i0 i1 a0 a1
    obtain ⟨d, T⟩ := ok.tree
    obtain ⟨d', T'⟩ := ok2.tree
    refine ⟨.ref ah, rfl, .int i, rfl, .int a, rfl, .ref ah, n, i, a, ps, [D, R], rfl, dh, hk, i0, i1, a0, a1, dk.tr, fun H1 du k1 t1 e1 => ?_⟩
    refine ⟨.ref ah, rfl, .int i, rfl, .int a, rfl, .ref ah, .int i, .int a, .non, n, ps, .int i, .int a, none, [D, R], [D, R], rfl, dh.keep k1.of, hk, .int i, s1, .int a, s2, .inl ⟨rfl, rfl⟩, t1, fun H2 fa k2 t2 e2 => ?_⟩
    rw [htd4 i0 i1 a0 a1 hn] at e2
    have e1b := e1.keep k2.of
    refine ⟨.ref du, rfl, show 2 ≤ sizeLine by decide, fun r nr => ?_⟩
    obtain ⟨k3, t3, e3⟩ := lst_facts t2 (.cons (.str "told") (.cons e1b .nil)) nr
    generalize upd _ r (.lst _) = H3 at k3 t3 e3 ⊢
    refine ⟨.ref fa, .ref r, toldD (houseD (n + 1) ((halfP ps n i a).map Pi.dat)), rfl, (e2.keep k3.of).nil, e3.nil, is_toldD (is_house (by have := ok2.len; have := ok2.n16; omega) fun p m => ⟨(ok2.ok p m).fit.nle, (ok2.ok p m).fit.fle⟩), fun H4 k4 => ⟨_, rfl, iteF ?_⟩⟩
    have k14 := k2.trans (k3.trans k4)
    refine ⟨.ref du, rfl, .ref du, n + 1, _, rfl, (e1.keep k14.of).nil, ok2, fun H5 k5 => ⟨_, rfl, iteF ?_⟩⟩
    have k15 := k14.trans k5
    have k05 := k1.trans k15
    have dk5 := dk.keep k05
    have dh5 := dh.keep k05.of
    have e15 := e1.keep k15.of
    -- known
    refine ⟨3, rfl, by decide, by decide, fun W nW => ?_⟩
    have hW := dk5.ne nW
    refine lc_range (lo := 0) (n := 3) (fun u M => Keep [D, R] H5 M ∧ Deck M D C R (b + 10 * u) ∧ ∃ (vs : List V) (zs : List Pl), M W = some (.lst vs) ∧ vs.length = u ∧ zs.length = u ∧ Dts (W :: [D, R]) M vs (zs.map tupI) ∧ ∀ z ∈ zs, okP n ps z)
      ⟨(Keep.new nW).of, (dk5.new nW).mono (by omega), [], [], upd_same, rfl, rfl, .nil, fun _ z => (nomatch z)⟩ (fun u M hu pp => ?_) (fun M pp => ?_)
    · obtain ⟨kM, dkM, vs, zs, eW, lv, lz, dv, okz⟩ := pp
      have trW : Tr (W :: [D, R]) M := dkM.tr.cons eW
      have dhW : Dt (W :: [D, R]) M (.ref ah) (houseD n (ps.map Pi.dat)) := Dt.map (fun b o e nb => ⟨kM b o e nb, fun m => (List.mem_cons.mp m).elim (ne_of_none e nW) nb⟩) _ _ dh5
      refine ⟨rfl, .ref D, rfl, .ref ah, rfl, .ref ah, D, C, R, n, _, ps, W :: [D, R], rfl, dhW, n1, n16, by omega, ok.ok, dkM, by omega, trW, List.mem_cons_of_mem _ mD, List.mem_cons_of_mem _ mR, fun M2 x z k2 dk2 _ dz okz' tr2 => ?_⟩
      have eW2 := k2 W _ eW (notDR hW.1 hW.2.2)
      have kMW : Keep (W :: [D, R]) M M2 := k2.mono fun z m => List.mem_cons_of_mem _ m
      refine ⟨vs, eW2, Nat.lt_of_lt_of_le (by omega : vs.length < 1000) (small1000 (by omega)), ?_, (dk2.other hW.1 hW.2.1 hW.2.2).mono (by omega), vs ++ [.ref x], zs ++ [z], upd_same, by rw [List.length_append, lv]; rfl, by rw [List.length_append, lz]; rfl, ?_, fun y hy => ?_⟩
      · exact (kM.trans k2).upd nW
      · rw [List.map_append]; exact lst_step dv kMW dz
      · rcases List.mem_append.mp hy with m | m
        · exact okz y m
        · rw [List.mem_singleton.mp m]; exact okz'
    obtain ⟨kM, dkM, vs, zs, eW, lv, lz, dv, okz⟩ := pp
    have dvM : Dts [D, R] M vs (zs.map tupI) := dv.less fun z m => List.mem_cons_of_mem _ m
    have dhM := dh5.keep kM
    have e1M := e15.keep kM
    refine ⟨.int i, rfl, .int a, rfl, show 2 ≤ sizeLine by decide, fun t nt => ?_⟩
    obtain ⟨k6, t6, f6⟩ := tup_facts dkM.tr (.cons (.int i) (.cons (.int a) .nil)) nt
    have eW6 := k6 W _ eW List.not_mem_nil
    generalize upd _ t (.tup _) = M6 at k6 t6 f6 eW6 ⊢
    refine ⟨.ref ah, rfl, .int i, rfl, .int a, rfl, a, 1, rfl, rfl, .ref ah, n, i, a + 1, ps, [D, R], rfl, dhM.keep k6.of, i0, i1, t6, fun M7 nv k7 _ d7 t7 => ?_⟩
    have eW7 := k7 W _ eW6 List.not_mem_nil
    refine ⟨show 2 ≤ sizeLine by decide, fun L2 nL2 => ?_⟩
    have k8 := Keep.new (av := []) (o := .lst [.ref t, .ref nv]) nL2
    have eL2 : (upd M7 L2 (.lst [.ref t, .ref nv])) L2 = some (.lst [.ref t, .ref nv]) := upd_same
    have eW8 := k8 W _ eW7 List.not_mem_nil
    have t8 : Tr [D, R] (upd M7 L2 (.lst [.ref t, .ref nv])) := t7.upd
    have dkx : Deck (upd M7 L2 (.lst [.ref t, .ref nv])) D C R (b + 10 * (3 : Nat)) := dkM.keep (k6.trans (k7.trans k8))
    have dall : Dts [D, R] (upd M7 L2 (.lst [.ref t, .ref nv])) (vs ++ [.ref t, .ref nv]) ((zs ++ [[i, a], nm ps i (a + 1)]).map tupI) := by
      rw [List.map_append]
      exact (dvM.keep (k6.trans (k7.trans k8)).of).app (.cons (f6.keep (k7.trans k8).of) (.cons (d7.keep k8.of) .nil))
    have k68 := k6.trans (k7.trans k8)
    generalize upd M7 L2 (.lst [.ref t, .ref nv]) = M8 at k8 eL2 eW8 t8 dkx dall k68 ⊢
    have okall : ∀ z ∈ zs ++ [[i, a], nm ps i (a + 1)], okP n ps z := fun z hz => by
      rcases List.mem_append.mp hz with m | m
      · exact okz z m
      · simp only [List.mem_cons, List.not_mem_nil, or_false] at m
        rcases m with rfl | rfl
        · exact ⟨i0, i1, a0, a1⟩
        · exact ok_nm T i0 i1 (by omega) (by omega)
    have l5 : (vs ++ [V.ref t, V.ref nv]).length = 5 := by rw [List.length_append, lv]; rfl
    have lz5 : (zs ++ [[i, a], nm ps i (a + 1)]).length = 5 := by rw [List.length_append, lz]; rfl
    generalize hxs : vs ++ [V.ref t, V.ref nv] = xs at dall l5
    generalize hzs : zs ++ [[i, a], nm ps i (a + 1)] = z5 at dall okall lz5
    refine ⟨W, L2, _, _, rfl, rfl, eW8, eL2, by rw [lv]; show 3 + 2 ≤ sizeLine; decide, fun Sx nS => ?_⟩
    rw [hxs]
    have k9 := Keep.new (av := []) (o := .lst xs) nS
    have eS : (upd M8 Sx (.lst xs)) Sx = some (.lst xs) := upd_same
    have t9 : Tr [D, R] (upd M8 Sx (.lst xs)) := t8.upd
    have dk9 := dkx.keep k9
    have dall9 := dall.keep k9.of
    have kM9 := k68.trans k9
    have dh9 := dhM.keep kM9.of
    have e19 := e1M.keep kM9.of
    have kH9 : Keep [D, R] H (upd M8 Sx (.lst xs)) := (k05.of.trans kM).trans kM9.of
    generalize upd M8 Sx (.lst xs) = M9 at k9 eS t9 dk9 dall9 kM9 dh9 e19 kH9 ⊢
    clear eW6 eW7 eW8 eL2 f6 d7 dall dvM dv hxs hzs
    -- where
    refine ⟨.ref Sx, rfl, Sx, rfl, ⟨_, SqL.of eS⟩, fun W2 nW2 => ?_⟩
    refine lc_list (K := K) (a := Sx) (xs := xs) (fun j M => Keep [] M9 M ∧ Tr (W2 :: [D, R]) M ∧ ∃ ws : List V, M W2 = some (.lst ws) ∧ ws.length = j ∧ Dts (W2 :: [D, R]) M ws ((z5.take j).map fun z => tupI (hv ps n i a z)))
      ⟨Keep.new nW2, (t9.upd).cons upd_same, [], upd_same, rfl, .nil⟩ (fun j M _ p => SqL.of (p.1 Sx _ eS List.not_mem_nil)) (fun j y M hy pp => ?_) (fun M' pp => ?_)
    · obtain ⟨kN, tN, ws, eW2, lw, dw⟩ := pp
      obtain ⟨dd, gd, dy⟩ := dall9.getv j hy
      rw [List.getElem?_map] at gd
      obtain ⟨z, gz, rfl⟩ := Option.map_eq_some_iff.mp gd
      have hj : j < 5 := by rw [← l5]; exact (List.getElem?_eq_some_iff.mp hy).1
      have off : ∀ {v : V} {d : PyData}, Dt [D, R] M9 v d → Dt (W2 :: [D, R]) M v d := fun {v d} h => Dt.map (fun b o e nb => ⟨kN b o e List.not_mem_nil, fun m => (List.mem_cons.mp m).elim (ne_of_none e nW2) nb⟩) _ _ h
      refine ⟨rfl, .ref ah, rfl, .int i, rfl, .int a, rfl, y, rfl, .ref ah, y, n, i, a, ps, z, W2 :: [D, R], rfl, off dh9, hk, i0, i1, a0, a1, off dy, okall z (List.mem_of_getElem? gz), tN, fun M2 v k2 tr2 dv2 => ?_⟩
      refine ⟨ws, k2 W2 _ eW2 List.not_mem_nil, Nat.lt_of_lt_of_le (by omega : ws.length < 1000) (small1000 (by omega)), (kN.trans k2).upd nW2, tr2.upd, ws ++ [v], upd_same, by rw [List.length_append, lw]; rfl, ?_⟩
      rw [List.take_add_one, gz]
      show Dts _ _ _ ((z5.take j ++ [z]).map _)
      rw [List.map_append]
      exact lst_step dw k2.of dv2
    obtain ⟨kN, tN, ws, eW2, lw, dw⟩ := pp
    rw [l5, ← lz5, List.take_length] at dw
    have dw9 : Dts [D, R] M' ws (z5.map fun z => tupI (hv ps n i a z)) := dw.less fun z m => List.mem_cons_of_mem _ m
    have tM' : Tr [D, R] M' := fun z m => tN z (List.mem_cons_of_mem _ m)
    have eS' := kN Sx _ eS List.not_mem_nil
    have dx' := dall9.keep kN.of
    have dh' := dh9.keep kN.of
    have e1' := e19.keep kN.of
    have dk' := dk9.keep kN
    have lws : ws.length = 5 := by rw [lw, l5]
    clear dw
    obtain ⟨z0, gz0⟩ : ∃ z0, z5[0]? = some z0 := ⟨_, List.getElem?_eq_getElem (by omega)⟩
    have okz0 := okall z0 (List.mem_of_getElem? gz0)
    obtain ⟨x0, gx0, dx0⟩ := dx'.get 0 (d := tupI z0) (by rw [List.getElem?_map, gz0]; rfl)
    obtain ⟨w0, gw0, dw0⟩ := dw9.get 0 (d := tupI (hv ps n i a z0)) (by rw [List.getElem?_map, gz0]; rfl)
    refine ⟨.ref Sx, rfl, .ref W2, rfl, Sx, W2, xs, ws, rfl, SqL.of eS', SqL.of eW2, RZ.for_zipL (K := K) (a := Sx) (b := W2) (xs := xs) (ys := ws) (by omega) (fun j σ N => ∃ s5 s7 s9, σ = [some (.ref D), some (.ref ah), some (.int i), some (.int a), some (.ref du), s5, some (.ref Sx), s7, some (.ref W2), s9] ∧ Keep [] M' N)
      ⟨_, _, _, rfl, Keep.refl _ _⟩ (fun j σ N z => ?_) (fun j x y Tt σ N gx gy z nT => ?_) (fun σ N z => ?_)⟩
    · obtain ⟨_, _, _, _, kk⟩ := z
      exact ⟨SqL.of (kk Sx _ eS' List.not_mem_nil), SqL.of (kk W2 _ eW2 List.not_mem_nil)⟩
    · obtain ⟨s5, s7, s9, rfl, kk⟩ := z
      obtain ⟨dd, gd, dxj⟩ := dx'.getv j gx
      rw [List.getElem?_map] at gd
      obtain ⟨z, gz, rfl⟩ := Option.map_eq_some_iff.mp gd
      obtain ⟨dd2, gd2, dyj⟩ := dw9.getv j gy
      rw [List.getElem?_map, gz] at gd2
      cases gd2
      have okzj := okall z (List.mem_of_getElem? gz)
      refine ⟨Tt, [x, y], rfl, SqT.of upd_same, rfl, x, _, rfl, y, [], rfl, rfl, ?_⟩
      have kT : Keep [] M' (upd N Tt (.tup [x, y])) := kk.trans (Keep.new nT)
      generalize upd N Tt (.tup [x, y]) = N0 at kT ⊢
      refine ⟨.ref ah, rfl, .int i, rfl, .int a, rfl, x, rfl, .ref ah, .int i, .int a, x, n, ps, .int i, .int a, some z, [D, R], [D, R], rfl, dh'.keep kT.of, hk, .int i, s1, .int a, s2, .inr ⟨z, dxj.keep kT.of, okzj, rfl⟩, tM'.k0 kT, fun N1 fa' k1' t1' e1'' => ?_⟩
      rw [htd5 i0 i1 a0 a1 hn] at e1''
      have kT1 := kT.trans k1'
      refine ⟨y, rfl, show 2 ≤ sizeLine by decide, fun r' nr' => ?_⟩
      obtain ⟨k2', t2', e2'⟩ := lst_facts t1' (.cons (.str "told") (.cons (dyj.keep kT1.of) .nil)) nr'
      generalize upd _ r' (.lst _) = N2 at k2' t2' e2' ⊢
      refine ⟨.ref fa', .ref r', toldD (tupI (hv ps n i a z)), rfl, (e1''.keep k2'.of).nil, e2'.nil, is_toldD (is_tupI (Nat.le_trans (hv_short ps n i a okzj) (by decide))), fun N3 k3' => ⟨_, rfl, iteF ?_⟩⟩
      have kT3 := kT1.trans (k2'.trans k3')
      refine ⟨.ref du, rfl, y, rfl, .ref du, y, n + 1, _, _, [D, R], [D, R], rfl, e1'.keep kT3.of, pis_ok _, dyj.keep kT3.of, _, rfl, ?_⟩
      rw [ok_isPlace (hv_ok S okzj)]
      refine iteF ?_
      refine ⟨.ref du, rfl, y, rfl, .ref W2, rfl, W2, _, 0, w0, rfl, rfl, SqL.of (kT3 W2 _ eW2 List.not_mem_nil), atI_nat (j := 0) gw0, .ref du, y, w0, n + 1, _, d', hv ps n i a z, hv ps n i a z0, rfl, (e1'.keep kT3.of).nil, ok2.hk, T', (dyj.keep kT3.of).nil, (dw0.keep kT3.of).nil, hv_ok S okzj, hv_ok S okz0, fun N4 k4' => ?_⟩
      have kT4 := kT3.trans k4'
      refine ⟨.ref ah, rfl, x, rfl, .ref Sx, rfl, Sx, _, 0, x0, rfl, rfl, SqL.of (kT4 Sx _ eS' List.not_mem_nil), atI_nat (j := 0) gx0, .ref ah, x, x0, n, ps, d, z, z0, rfl, (dh'.keep kT4.of).nil, hk, T, (dxj.keep kT4.of).nil, (dx0.keep kT4.of).nil, okzj, okz0, fun N5 k5' => ?_⟩
      rw [hv_iso S T T' okzj okz0]
      refine ⟨_, _, .int (Dp ps d z z0), rfl, .int _, .int _, .int _ _, fun N6 k6' => ⟨_, rfl, iteF ?_⟩⟩
      exact ⟨_, _, _, rfl, kT4.trans (k5'.trans k6')⟩
    obtain ⟨s5, s7, s9, rfl, kk⟩ := z
    exact q N (kH9.trans (kN.trans kk).of) ((dk'.keep kk).mono (by omega))
end
end Rw

namespace Rw
open PySem PySem.Spec PyProof.Rows L2 TL
/-! ### sixteen rooms in a row -/
structure Path (ps : List Pi) : Prop where
  at_ : ∀ (k : Nat) (p : Pi), ps[k]? = some p → p.x = k ∧ p.y = k + 1 ∧ 2 ≤ p.l ∧ p.l ≤ 10 ∧ p.na = [] ∧ p.fl = []
theorem Path.snoc {ps : List Pi} (h : Path ps) {l : Int} (l0 : 2 ≤ l) (l1 : l ≤ 10) : Path (ps ++ [⟨ps.length, ps.length + 1, l, [], []⟩]) := ⟨fun k p e => by
  rcases get_snoc e with ⟨e, _⟩ | ⟨rfl, rfl⟩
  · exact h.at_ k p e
  · exact ⟨rfl, rfl, l0, l1, rfl, rfl⟩⟩
theorem Path.ok {ps : List Pi} (h : Path ps) (hl : ps.length = 15) : okH 16 ps := by
  have get : ∀ p ∈ ps, ∃ k : Nat, k < 15 ∧ ps[k]? = some p := fun p m => by
    obtain ⟨k, hk, e⟩ := List.mem_iff_getElem.mp m
    exact ⟨k, by omega, by rw [List.getElem?_eq_getElem hk, e]⟩
  refine ⟨by decide, by decide, by omega, fun p m => ?_, fun S hS a ha => ?_, ?_, ?_⟩
  · obtain ⟨k, hk, e⟩ := get p m
    obtain ⟨e1, e2, e3, e4, e5, e6⟩ := h.at_ k p e
    exact ⟨by omega, by omega, by omega, by omega, by omega, by rw [e5, e6]; exact fit_bare (by omega) (by omega)⟩
  · have all : ∀ b, b < 15 → S b = S (b + 1) := fun b hb => by
      have e : ps[b]? = some (ps[b]'(by omega)) := List.getElem?_eq_getElem (by omega)
      obtain ⟨e1, e2, _⟩ := h.at_ b _ e
      have z := hS ((ps[b]'(by omega)).x.toNat, (ps[b]'(by omega)).y.toNat) (List.mem_map.mpr ⟨_, List.getElem_mem _, rfl⟩)
      simp only [e1, e2] at z
      rw [show ((b : Int) + 1).toNat = b + 1 by omega, show ((b : Int)).toNat = b by omega] at z
      exact z
    have go : ∀ b, b < 16 → S b = S 0 := fun b => by
      induction b with
      | zero => intro _; rfl
      | succ b ih => intro hb; rw [← all b (by omega), ih (by omega)]
    exact go a ha
  · rw [sum_zero _ ps fun p m => by obtain ⟨k, hk, e⟩ := get p m; rw [(h.at_ k p e).2.2.2.2.1]; rfl]; decide
  · rw [sum_zero _ ps fun p m => by obtain ⟨k, hk, e⟩ := get p m; rw [(h.at_ k p e).2.2.2.2.2]; rfl]; decide
section
variable {P : Program} {w : World} {K : PySem.W.Frag} {mg : Str → Option Value} {base : Heap}
abbrev sLaw : Stmt := topS 64
abbrev nLaw : List Str := ["_law_script", "_law_deck_here", "_law_turn", "_law_house_here", "_law_k", "_law_kept", "_law_pipe_here", "_law_length_here", "_law_spot", "_law_width", "_law_course", "_law_near", "_law_at"]
theorem scLaw : FnScope nLaw ["_law_script"] (defScope sLaw) := ⟨rfl, rfl, rfl, by decide +kernel, rfl, by decide +kernel, by decide +kernel⟩
def spLaw (K : PySem.W.Frag) : Sp := fun vs H Q _ => ∃ (a : Addr) (ns : List Int), vs = [.ref a] ∧ SqL K H a (ns.map V.int) ∧ ns.length ≤ 63 ∧ ∀ H', Q (.bl true) H'
theorem ok_law {f : Addr} {fd : FuncData} (F : Fun K "law" "law" sLaw f fd) (B : Blt mg) (CD : Can P w K mg base "_law_deck" ["_law_script"] 1 (spDeck K)) (CN : Can P w K mg base "_law_next" ["_law_deck_here", "_law_many"] 1 spNext) (CH : Can P w K mg base "_law_house" ["_law_deck_here", "_law_most", "_law_far", "_law_flaps"] 6 spHouse) (CP : Can P w K mg base "_law_place" ["_law_deck_here", "_law_house_here"] 4 spPlaceL) (CE : Can P w K mg base "_law_edge" ["_law_deck_here", "_law_many"] 3 spEdge) (CRR : CanG P w K mg base "_law_refused_right" ["_law_deck_here", "_law_house_here", "_law_place_here"] 8 spRR) (CHR : CanG P w K mg base "_law_halved_right" ["_law_deck_here", "_law_house_here", "_law_pipe_here", "_law_at"] 8 spHR) :
    (∀ (s : Shared) (u : Value), BindsTo s fd ⟨[u], []⟩ [("_law_script", u)]) ∧ AtTop P w K mg base f fd "_law_script" (spLaw K) := by
  refine ⟨?_, atTop_of (k := 9) F scLaw ⟨rfl, by decide, by decide⟩ fun cdv s H v Q hr h => ?_⟩
  · obtain ⟨oc, od, kV, doc, pm, an, cdv, ct, osl, rfl, _, _⟩ := F.ex
    exact fun s u => .of_eq rfl
  · obtain ⟨a, ns, e, hS, hl, q⟩ := h
    cases e
    have hg : callerA.guards = some [] := rfl
    refine ⟨_, PSs.nox (pss_cons (ps_set (i := 1) scLaw.nd rfl (by first | exact Or.inl rfl | exact Or.inr rfl) (pe_can CD (hr.mono (by decide)) (by rfl) (pa_cons (pv 0) pa_nil)))
      (pss_cons (ps_for PassesOwn.never rfl (pi_range1 (by rfl) B.range_ (pa_cons pe_int pa_nil)) (pg_name (i := 2) scLaw.nd rfl (by first | exact Or.inl rfl | exact Or.inr rfl))
      (pss_cons (ps_set (i := 3) scLaw.nd rfl (by first | exact Or.inl rfl | exact Or.inr rfl) (pe_can CH (hr.mono (by decide)) (by rfl) (pa_cons (pv 1) (pa_cons (pe_ix ix_list (pe_lst (pa_cons pe_int (pa_cons pe_int (pa_cons pe_int pa_nil)))) (pe_can CN (hr.mono (by decide)) (by rfl) (pa_cons (pv 1) (pa_cons pe_int pa_nil))) (fun _ _ => rfl)) (pa_cons (pe_can CN (hr.mono (by decide)) (by rfl) (pa_cons (pv 1) (pa_cons pe_int pa_nil))) (pa_cons pe_int pa_nil))))))
      (pss_cons (ps_if (pt_cmpR op_eq (pv 2) pe_int (nomark _)) (pss_one (ps_set (i := 3) scLaw.nd rfl (by first | exact Or.inl rfl | exact Or.inr rfl) (pe_tup (pa_cons pe_int (pa_cons (pe_callTy call_tuple_of (by rfl) B.tuple_ boot_tuple (pa_cons (pe_lc (own := [("_law_k", 4)]) (g := gName 4) (tt := tYes) rfl scLaw.nd (pi_range1 (by rfl) B.range_ (pa_cons pe_int pa_nil)) (blkOk_by (N := nLaw) (sc := defScope sLaw) (by decide +kernel)) (fun _ _ _ _ _ => (pg_name (i := 4) scLaw.nd rfl (by first | exact Or.inl rfl | exact Or.inr rfl))) (fun _ _ _ _ _ => pts_nil) (fun _ _ _ _ _ => (pe_tup (pa_cons (pv 4) (pa_cons (pe_op op_add (pv 4) pe_int) (pa_cons (pe_op op_add pe_int (pe_can CN (hr.mono (by decide)) (by rfl) (pa_cons (pv 1) (pa_cons pe_int pa_nil)))) (pa_cons (pe_tup pa_nil) (pa_cons (pe_tup pa_nil) pa_nil)))))))) pa_nil)) pa_nil))))) pss_nil)
      (pss_cons (ps_set (i := 5) scLaw.nd rfl (by first | exact Or.inl rfl | exact Or.inr rfl) (pe_callB (cr_reprA hg (units70 hr)) (by rfl) B.repr_ boot_repr (pa_cons (pv 3) pa_nil)))
      (pss_cons (ps_if (pt_not (pt_val (pe_canG CRR (hr.mono (by decide)) hg (by rfl) (pa_cons (pv 1) (pa_cons (pv 3) (pa_cons (pe_can CP (hr.mono (by decide)) (by rfl) (pa_cons (pv 1) (pa_cons (pv 3) pa_nil))) pa_nil)))))) (pss_one (ps_ret pe_bl)) pss_nil)
      (pss_cons (ps_for PassesOwn.never rfl (pi_list (pe_lc (own := [("_law_k", 4)]) (g := gName 4) rfl scLaw.nd (pi_range1 (by rfl) B.range_ (pa_cons (pe_callB call_len_seq (by rfl) B.len_ PySem.boot_len (pa_cons (pe_ix ix_tup (pv 3) pe_int (fun _ _ => rfl)) pa_nil)) pa_nil)) (blkOk_by (N := nLaw) (sc := defScope sLaw) (by decide +kernel)) (fun _ _ _ _ _ => (pg_name (i := 4) scLaw.nd rfl (by first | exact Or.inl rfl | exact Or.inr rfl))) (fun _ _ _ _ _ => pts_one (pt_cmpR op_gt (pe_ix (ix_tupK (K := K) rfl) (pe_ix (ix_tupK (K := K) rfl) (pe_ix (ix_tupK (K := K) rfl) (pv 3) pe_int (fun _ _ => rfl)) (pv 4) (fun _ _ => rfl)) pe_int (fun _ _ => rfl)) pe_int (nomark _))) (fun _ _ _ _ _ => (pv 4)))) (pg_name (i := 6) scLaw.nd rfl (by first | exact Or.inl rfl | exact Or.inr rfl))
      (pss_cons (ps_set (i := 7) scLaw.nd rfl (by first | exact Or.inl rfl | exact Or.inr rfl) (pe_ix ix_tup (pe_ix ix_tup (pe_ix ix_tup (pv 3) pe_int (fun _ _ => rfl)) (pv 6) (fun _ _ => rfl)) pe_int (fun _ _ => rfl)))
      (pss_cons (ps_set (i := 11) scLaw.nd rfl (by first | exact Or.inl rfl | exact Or.inr rfl) (pe_op op_cat (pe_lc (own := [("_law_spot", 8), ("_law_width", 9)]) (tt := tYes) rfl scLaw.nd (pi_tup (pe_ix ix_tup (pe_ix ix_tup (pe_ix ix_tup (pv 3) pe_int (fun _ _ => rfl)) (pv 6) (fun _ _ => rfl)) pe_int (fun _ _ => rfl))) (blkOk_by (N := nLaw) (sc := defScope sLaw) (by decide +kernel)) (fun _ _ _ _ _ => (pg_tupK (K := K) (n := 2) rfl (by rfl) (pgs_cons (pg_name (i := 8) scLaw.nd rfl (by first | exact Or.inl rfl | exact Or.inr rfl)) (pgs_cons (pg_name (i := 9) scLaw.nd rfl (by first | exact Or.inl rfl | exact Or.inr rfl)) pgs_nil)))) (fun _ _ _ _ _ => pts_nil) (fun _ _ _ _ _ => (pv 8))) (pe_lc (own := [("_law_spot", 8), ("_law_course", 10)]) rfl scLaw.nd (pi_tup (pe_ix ix_tup (pe_ix ix_tup (pe_ix ix_tup (pv 3) pe_int (fun _ _ => rfl)) (pv 6) (fun _ _ => rfl)) pe_int (fun _ _ => rfl))) (blkOk_by (N := nLaw) (sc := defScope sLaw) (by decide +kernel)) (fun _ _ _ _ _ => (pg_tupK (K := K) (n := 2) rfl (by rfl) (pgs_cons (pg_name (i := 8) scLaw.nd rfl (by first | exact Or.inl rfl | exact Or.inr rfl)) (pgs_cons (pg_name (i := 10) scLaw.nd rfl (by first | exact Or.inl rfl | exact Or.inr rfl)) pgs_nil)))) (fun _ _ _ _ _ => pts_one (pt_cmpR op_gt (pv 8) pe_int (nomark _))) (fun _ _ _ _ _ => (pv 8)))))
      (pss_one (ps_for PassesOwn.never rfl (pi_list (pe_lst (pa_cons pe_int (pa_cons (pe_op op_sub (pv 7) pe_int) (pa_cons (pe_op op_add pe_int (pe_can CE (hr.mono (by decide)) (by rfl) (pa_cons (pv 1) (pa_cons (pe_op op_sub (pv 7) pe_int) pa_nil)))) (pa_cons (pe_ix ix_list (pe_op op_cat (pv 11) (pe_lst (pa_cons pe_int pa_nil))) pe_int (fun _ _ => rfl)) pa_nil)))))) (pg_name (i := 12) scLaw.nd rfl (by first | exact Or.inl rfl | exact Or.inr rfl))
      (pss_one (ps_if (pt_not (pt_val (pe_canG CHR (hr.mono (by decide)) hg (by rfl) (pa_cons (pv 1) (pa_cons (pv 3) (pa_cons (pv 6) (pa_cons (pv 12) pa_nil))))))) (pss_one (ps_ret pe_bl)) pss_nil)))))))
      (pss_one (ps_if (pt_cmpR op_ne (pe_callB (cr_reprA hg (units70 hr)) (by rfl) B.repr_ boot_repr (pa_cons (pv 3) pa_nil)) (pv 5) (nomark _)) (pss_one (ps_ret pe_bl)) pss_nil))))))))
      (pss_one (ps_ret pe_bl)))), ?_⟩
    refine ⟨.ref a, rfl, a, ns, rfl, hS, hl, fun H1 D C R _ _ _ _ dk1 => ?_⟩
    have mD : D ∈ [D, R] := List.mem_cons_self
    have mR : R ∈ [D, R] := List.mem_cons_of_mem _ List.mem_cons_self
    refine ⟨4, rfl, by decide, by decide, for_range (lo := 0) (n := 4) (fun i σ G => ∃ s2 s3 s4 s5 s6 s7 s8 s9 s10 s11 s12, σ = [some (.ref a), some (.ref D), s2, s3, s4, s5, s6, s7, s8, s9, s10, s11, s12] ∧ Deck G D C R (20000 * i)) ⟨_, _, _, _, _, _, _, _, _, _, _, rfl, dk1.mono (by omega)⟩ (fun i σ G hi pp => ?_) (fun σ G pp => ?_)⟩
    rotate_left
    · exact q _
    obtain ⟨s2, s3, s4, s5, s6, s7, s8, s9, s10, s11, s12, rfl, dk⟩ := pp
    refine ⟨.ref D, rfl, show 3 ≤ sizeLine by decide, fun L nL => ?_⟩
    have kL := Keep.new (av := []) (o := .lst [.int 4, .int 8, .int 16]) nL
    have eL : (upd G L (.lst [.int 4, .int 8, .int 16])) L = some (.lst [.int 4, .int 8, .int 16]) := upd_same
    have hL := dk.ne nL
    have dkL := dk.keep kL
    generalize upd G L (.lst [.int 4, .int 8, .int 16]) = GL at kL eL dkL ⊢
    refine ⟨.ref D, rfl, D, C, R, _, 3, rfl, by decide, by decide, dkL, by omega, fun G1 k kG1 dkG1 k0 k1 => ?_⟩
    obtain ⟨most, gm, m1, m2⟩ : ∃ most : Int, ([.int 4, .int 8, .int 16] : List V)[k.toNat]? = some (.int most) ∧ 1 ≤ most ∧ most ≤ 16 := by
      have : k = 0 ∨ k = 1 ∨ k = 2 := by omega
      rcases this with rfl | rfl | rfl
      · exact ⟨4, rfl, by decide, by decide⟩
      · exact ⟨8, rfl, by decide, by decide⟩
      · exact ⟨16, rfl, by decide, by decide⟩
    refine ⟨L, _, k, .int most, rfl, rfl, SqL.of (kG1 L _ eL (notDR hL.1 hL.2.2)), atI_of k0 gm, .ref D, rfl, D, C, R, _, 2, rfl, by decide, by decide, dkG1, by omega, fun G2 k2 kG2 dkG2 k20 k21 => ?_⟩
    refine (have rest : ∀ (p : Addr) (M : Hp), (∃ n ps, okH n ps ∧ Dt [D, R] M (.ref p) (houseD n (ps.map Pi.dat)) ∧ Deck M D C R (20000 * i + 3000)) → _ := ?rest; ⟨D, C, R, _, most, k2, 1, [D, R], rfl, m1, m2, by omega, by decide, by decide, dkG2, by omega, dkG2.tr, mD, mR, fun H3 p n ps k3 dk3 n1 n2 ln okp con na fl dh tr3 =>
      ⟨.int (0 + i), rfl, rfl, _, rfl, ite2 (fun e => ?star) (fun e => rest p H3 ⟨n, ps, ⟨n1, n2, by omega, fun p m => (okp p m).1, con, na, fl⟩, dh, dk3.mono (by omega)⟩)⟩⟩)
    case star =>
      refine ⟨15, rfl, by decide, by decide, fun W nW => ?_⟩
      have hW := dk3.ne nW
      refine lc_range (lo := 0) (n := 15) (fun u M => Keep [D, R] H3 M ∧ Deck M D C R (20000 * i + 2500 + u) ∧ ∃ (vs : List V) (qs : List Pi), M W = some (.lst vs) ∧ vs.length = u ∧ qs.length = u ∧ Dts (W :: [D, R]) M vs (qs.map Pi.dat) ∧ Path qs)
        ⟨(Keep.new nW).of, (dk3.new nW).mono (by omega), [], [], upd_same, rfl, rfl, .nil, ⟨fun k p e => by simp at e⟩⟩ (fun u M hu pp => ?_) (fun M pp => ?_)
      · obtain ⟨kM, dkM, vs, qs, eW, lv, lq, dv, sq⟩ := pp
        refine ⟨rfl, .int (0 + u), rfl, .int (0 + u), rfl, 0 + u, 1, rfl, rfl, .ref D, rfl, D, C, R, _, 9, rfl, by decide, by decide, dkM, by omega, fun M2 e kM2 dkM2 e0 e1 => ?_⟩
        have eW2 := kM2 W _ eW (notDR hW.1 hW.2.2)
        have tr2 : Tr (W :: [D, R]) M2 := dkM2.tr.cons eW2
        refine ⟨2, e, rfl, rfl, show 0 ≤ sizeLine by decide, fun r1 n1 => ?_⟩
        obtain ⟨q1, t1, f1⟩ := tup_facts tr2 (ds := []) .nil n1
        generalize upd _ r1 (.tup _) = J1 at q1 t1 f1 ⊢
        refine ⟨show 0 ≤ sizeLine by decide, fun r2 n2 => ?_⟩
        obtain ⟨q2, t2, f2⟩ := tup_facts t1 (ds := []) .nil n2
        generalize upd _ r2 (.tup _) = J2 at q2 t2 f2 ⊢
        refine ⟨show 5 ≤ sizeLine by decide, fun r3 n3 => ?_⟩
        rw [show (0 + (u : Int)) = (qs.length : Int) by omega]
        obtain ⟨q3, t3, f3⟩ := tup_facts t2 (ds := [.int (qs.length : Int), .int ((qs.length : Int) + 1), .int (2 + e), .tuple [], .tuple []]) (.cons (.int _) (.cons (.int _) (.cons (.int _) (.cons (f1.keep q2.of) (.cons f2 .nil))))) n3
        generalize upd _ r3 (.tup _) = J3 at q3 t3 f3 ⊢
        have q13 : Keep [] M2 J3 := q1.trans (q2.trans q3)
        have eW3 := q13 W _ eW2 List.not_mem_nil
        have dkJ3 := dkM2.keep q13
        have kMJ : Keep (W :: [D, R]) M J3 := (kM2.trans q13.of).mono (fun z m => List.mem_cons_of_mem _ m)
        refine ⟨vs, eW3, Nat.lt_of_lt_of_le (by omega : vs.length < 1000) (small1000 (by omega)), ?_, (dkJ3.other hW.1 hW.2.1 hW.2.2).mono (by omega), vs ++ [.ref r3], qs ++ [⟨qs.length, qs.length + 1, 2 + e, [], []⟩], upd_same, by rw [List.length_append, lv]; rfl, by rw [List.length_append, lq]; rfl, ?_, sq.snoc (by omega) (by omega)⟩
        · exact (kM.trans (kM2.trans q13.of)).upd nW
        · rw [List.map_append]
          exact lst_step dv kMJ f3
      · obtain ⟨kM, dkM, vs, qs, eW, lv, lq, dv, sq⟩ := pp
        refine ⟨W, vs, rfl, .inl ⟨SqL.of eW, fun T nT => ?_⟩⟩
        have dT : Dt [D, R] (upd M T (.tup vs)) (.ref T) (.tuple (qs.map Pi.dat)) := .tup (dkM.tr.not nT) upd_same ((dv.keep (Keep.new nT).of).less fun a m => List.mem_cons_of_mem _ m)
        have dkT : Deck (upd M T (.tup vs)) D C R (20000 * i + 2500 + (15 : Nat)) := dkM.new nT
        generalize upd M T (.tup vs) = MT at dT dkT ⊢
        refine ⟨show 2 ≤ sizeLine by decide, fun T2 nT2 => ?_⟩
        obtain ⟨q1, t1, f1⟩ := tup_facts dkT.tr (.cons (.int 16) (.cons dT .nil)) nT2
        exact rest T2 _ ⟨16, qs, sq.ok lq, f1, (dkT.keep q1).mono (by omega)⟩
    case rest =>
      intro p M hM
      obtain ⟨n, ps, ok, dh, dkM⟩ := hM
      have n1 := ok.n1
      have n2 := ok.n16
      have ln := ok.len
      have shH := (sw_house ok).shw (by decide) (by decide)
      refine ⟨.ref p, rfl, .ref p, _, [D, R], rfl, dh, shH, ?_⟩
      generalize hkt : (houseD n (ps.map Pi.dat)).shown = kt
      refine ⟨.ref D, rfl, .ref p, rfl, .ref D, rfl, .ref p, rfl, .ref p, D, C, R, n, _, ps, [D, R], rfl, dh, n1, n2, by omega, ok.ok, dkM, by omega, dkM.tr, mD, mR, fun J1 x z kJ1 dkJ1 _ dz okz _ => ?_⟩
      refine ⟨D, C, R, .ref p, .ref x, _, n, ps, z, rfl, dh.keep kJ1, ok, dz, okz, dkJ1, by omega, fun J2 kJ2 dkJ2 => ⟨_, rfl, iteF ?_⟩⟩
      have k02 := kJ1.trans kJ2
      have dh2 := dh.keep k02
      obtain ⟨ah, ap, xp, eah', nah, eah, nap, eap, dxp⟩ := house_parts dh2
      cases eah'
      have lx : xp.length = ps.length := by rw [dxp.len, List.length_map]
      have pia : ∀ {i : Int}, 0 ≤ i → i < ps.length → ∃ (pa T1 T2 : Addr) (u1 u2 : List V), atI xp i = some (.ref pa) ∧ pa ∉ [D, R] ∧ J2 pa = some (.tup [.int (pr ps i).x, .int (pr ps i).y, .int (pr ps i).l, .ref T1, .ref T2]) ∧
          T1 ∉ [D, R] ∧ J2 T1 = some (.tup u1) ∧ Dts [D, R] J2 u1 ((pr ps i).na.map prD) ∧ T2 ∉ [D, R] ∧ J2 T2 = some (.tup u2) ∧ Dts [D, R] J2 u2 ((pr ps i).fl.map prD) := fun {i} i0 i1 => by
        obtain ⟨p', pa, T1, T2, mp, hp, epa, eP⟩ := pi_at dxp i0 i1
        have ep : p' = pr ps i := by
          have z := (pr_mem i0 i1).2
          rw [z] at hp; exact (Option.some.inj hp).symm
        subst ep
        obtain ⟨v, ev, dpi⟩ := dxp.get i.toNat (d := (pr ps i).dat) (by rw [List.getElem?_map, (pr_mem i0 i1).2]; rfl)
        have ev2 : v = .ref pa := by
          have z := atI_of i0 ev
          rw [epa] at z; exact (Option.some.inj z).symm
        subst ev2
        obtain ⟨d4, d5⟩ := pipe_tails dpi eP
        obtain ⟨_, _, epa', npa, _, _⟩ := tup_at (show Dt [D, R] J2 (.ref pa) (.tuple [.int (pr ps i).x, .int (pr ps i).y, .int (pr ps i).l, .tuple ((pr ps i).na.map prD), .tuple ((pr ps i).fl.map prD)]) from dpi)
        cases epa'
        obtain ⟨_, u1, eu1, nT1, eT1, dT1⟩ := tup_at d4
        cases eu1
        obtain ⟨_, u2, eu2, nT2, eT2, dT2⟩ := tup_at d5
        cases eu2
        exact ⟨pa, T1, T2, u1, u2, epa, npa, eP, nT1, eT1, dT1, nT2, eT2, dT2⟩
      refine ⟨.ref p, rfl, p, _, 1, .ref ap, rfl, rfl, SqT.of eah, atI_nat (j := 1) rfl, ap, _, rfl, .inr (SqT.of eap), _, rfl, by omega, by omega, fun W nW => ?_⟩
      have hW := dkJ2.ne nW
      refine lc_range (lo := 0) (n := ((xp.length : Int)).toNat) (fun u M' => Keep [] J2 M' ∧ ∃ ws : List V, M' W = some (.lst ws) ∧ ws.length ≤ u ∧ ∀ y ∈ ws, ∃ k : Int, y = .int k ∧ 0 ≤ k ∧ k < ps.length ∧ 1 < (pr ps k).l)
        ⟨Keep.new nW, [], upd_same, Nat.le_refl _, fun _ z => (nomatch z)⟩ (fun u M' hu pp => ?_) (fun M' pp => ?_)
      · obtain ⟨kM', ws, eW, lw, hw⟩ := pp
        have u0 : (0 : Int) ≤ 0 + u := by omega
        have u1 : (0 + u : Int) < ps.length := by omega
        obtain ⟨pa, T1, T2, _, _, epa, _, eP, _⟩ := pia u0 u1
        refine ⟨rfl, .ref p, rfl, p, _, 1, .ref ap, rfl, rfl, SqT.of (kM' _ _ eah List.not_mem_nil), atI_nat (j := 1) rfl, .int (0 + u), rfl, ap, _, (0 + u), .ref pa, rfl, rfl, SqT.of (kM' _ _ eap List.not_mem_nil), epa, pa, _, 2, .int (pr ps (0 + u)).l, rfl, rfl, SqT.of (kM' _ _ eP List.not_mem_nil), atI_nat (j := 2) rfl, _, 1, rfl, rfl, _, rfl, ite2 (fun c => ?_) (fun c => ?_)⟩
        · refine ⟨.int (0 + u), rfl, ws, eW, Nat.lt_of_lt_of_le (by omega : ws.length < 1000) (small1000 (by omega)), kM'.upd nW, ws ++ [.int (0 + u)], upd_same, by rw [List.length_append]; show ws.length + 1 ≤ _; omega, fun y hy => ?_⟩
          rcases List.mem_append.mp hy with m | m
          · exact hw y m
          · rw [List.mem_singleton.mp m]; exact ⟨_, rfl, u0, u1, of_decide_eq_true c⟩
        · exact ⟨kM', ws, eW, by omega, hw⟩
      obtain ⟨kM', ws, eW, lw, hw⟩ := pp
      have dkM' := (dkJ2.keep kM').mono (by omega : 20000 * (i : Int) + 3000 + 10 + 20 ≤ 20000 * (i : Int) + 3100)
      have kMM := k02.trans kM'.of
      have lw15 : ws.length ≤ 15 := by omega
      refine ⟨W, rfl, ⟨_, SqL.of eW⟩, for_list (K := K) (a := W) (xs := ws) (fun t σ J => ∃ s2 s4 s6 s7 s8 s9 s10 s11 s12, σ = [some (.ref a), some (.ref D), s2, some (.ref p), s4, some (.str kt), s6, s7, s8, s9, s10, s11, s12] ∧ Keep [D, R] M' J ∧ Deck J D C R (20000 * i + 3100 + 200 * t))
        ⟨_, _, _, _, _, _, _, _, _, rfl, Keep.refl _ _, dkM'.mono (by omega)⟩ (fun t σ J _ z => ?_) (fun t y σ J gy pp => ?_) (fun σ J pp => ?_)⟩
      · obtain ⟨_, _, _, _, _, _, _, _, _, _, kJ, _⟩ := z
        exact SqL.of (kJ W _ eW (notDR hW.1 hW.2.2))
      rotate_left
      · obtain ⟨s2, s4, s6, s7, s8, s9, s10, s11, s12, rfl, kJ, dkJ⟩ := pp
        refine ⟨.ref p, rfl, .ref p, _, [D, R], rfl, (dh.keep kMM).keep kJ, shH, .str kt, rfl, rfl, _, rfl, ?_⟩
        rw [hkt]
        refine iteNS rfl ?_
        exact ⟨_, _, _, _, _, _, _, _, _, _, _, rfl, dkJ.mono (by omega)⟩
      obtain ⟨s2, s4, s6, s7, s8, s9, s10, s11, s12, rfl, kJ, dkJ⟩ := pp
      obtain ⟨j, rfl, j0, j1, jl⟩ := hw y (List.mem_of_getElem? gy)
      have ht : t < 15 := by
        have := (List.getElem?_eq_some_iff.mp gy).1
        omega
      obtain ⟨pa, T1, T2, u1, u2, epa, npa, eP, nT1, eT1, dT1, nT2, eT2, dT2⟩ := pia j0 j1
      have kA : Keep [D, R] J2 J := kM'.of.trans kJ
      have eahJ := kA p _ eah nah
      have eapJ := kA ap _ eap nap
      have ePJ := kA pa _ eP npa
      have eT1J := kA T1 _ eT1 nT1
      have eT2J := kA T2 _ eT2 nT2
      have dT1J := dT1.keep kA
      have dT2J := dT2.keep kA
      have dhJ := (dh.keep kMM).keep kJ
      have okj := ok.ok _ (pr_mem j0 j1).1
      have n3 := okj.fit.nle
      have f3 := okj.fit.fle
      have l2 := okj.fit.l2
      generalize hlj : (pr ps j).l = lj at jl l2 ePJ
      refine ⟨.ref p, rfl, p, _, 1, .ref ap, rfl, rfl, SqT.of eahJ, atI_nat (j := 1) rfl, .int j, rfl, ap, _, j, .ref pa, rfl, rfl, SqT.of eapJ, epa, pa, _, 2, .int lj, rfl, rfl, SqT.of ePJ, atI_nat (j := 2) rfl, ?_⟩
      refine ⟨.ref p, rfl, p, _, 1, .ref ap, rfl, rfl, SqT.of eahJ, atI_nat (j := 1) rfl, .int j, rfl, ap, _, j, .ref pa, rfl, rfl, SqT.of eapJ, epa, pa, _, 3, .ref T1, rfl, rfl, SqT.of ePJ, atI_nat (j := 3) rfl, T1, rfl, ⟨_, SqT.of eT1J⟩, fun W1 nW1 => ?_⟩
      have lu1 : u1.length ≤ 3 := by rw [dT1.len, List.length_map]; exact n3
      have lu2 : u2.length ≤ 3 := by rw [dT2.len, List.length_map]; exact f3
      refine lc_tup (K := K) (a := T1) (xs := u1) (fun t G => Keep [] J G ∧ ∃ vs : List V, G W1 = some (.lst vs) ∧ vs.length ≤ t ∧ ∀ y ∈ vs, ∃ k : Int, y = .int k ∧ 1 ≤ k ∧ k ≤ lj - 1)
        ⟨Keep.new nW1, [], upd_same, Nat.le_refl _, fun _ z => (nomatch z)⟩ (fun t G _ z => SqT.of (z.1 T1 _ eT1J List.not_mem_nil)) (fun t y G hy pp => ?_) (fun G pp => ?_)
      · obtain ⟨kG, vs, eV, lv, hv⟩ := pp
        obtain ⟨dd, gd, dy⟩ := dT1J.getv t hy
        rw [List.getElem?_map] at gd
        obtain ⟨k, gk, rfl⟩ := Option.map_eq_some_iff.mp gd
        obtain ⟨b, ys, rfl, _, eb, db⟩ := tup_at (show Dt [D, R] J y (.tuple [.int k.1, .int k.2]) from dy)
        have hys : ys = [.int k.1, .int k.2] := Dts.unints (ns := [k.1, k.2]) db
        subst hys
        have kin := okj.fit.nin k (List.mem_of_getElem? gk)
        have ht3 := (List.getElem?_eq_some_iff.mp hy).1
        refine ⟨b, _, rfl, SqT.of (kG b _ eb List.not_mem_nil), rfl, _, _, rfl, _, [], rfl, rfl, rfl, .int k.1, rfl, vs, eV, Nat.lt_of_lt_of_le (by omega : vs.length < 1000) (small1000 (by omega)), kG.upd nW1, vs ++ [.int k.1], upd_same, by rw [List.length_append]; show vs.length + 1 ≤ _; omega, fun y hy => ?_⟩
        rcases List.mem_append.mp hy with m | m
        · exact hv y m
        · rw [List.mem_singleton.mp m]; exact ⟨_, rfl, kin.1, by rw [← hlj]; exact kin.2.1⟩
      obtain ⟨kG1, v1, eV1, lv1, hv1⟩ := pp
      refine ⟨.ref p, rfl, p, _, 1, .ref ap, rfl, rfl, SqT.of (kG1 _ _ eahJ List.not_mem_nil), atI_nat (j := 1) rfl, .int j, rfl, ap, _, j, .ref pa, rfl, rfl, SqT.of (kG1 _ _ eapJ List.not_mem_nil), epa, pa, _, 4, .ref T2, rfl, rfl, SqT.of (kG1 _ _ ePJ List.not_mem_nil), atI_nat (j := 4) rfl, T2, rfl, ⟨_, SqT.of (kG1 _ _ eT2J List.not_mem_nil)⟩, fun W2 nW2 => ?_⟩
      have dT2G := dT2J.keep kG1.of
      refine lc_tup (K := K) (a := T2) (xs := u2) (fun t G' => Keep [] G G' ∧ ∃ vs : List V, G' W2 = some (.lst vs) ∧ vs.length ≤ t ∧ ∀ y ∈ vs, ∃ k : Int, y = .int k ∧ 1 ≤ k ∧ k ≤ lj - 1)
        ⟨Keep.new nW2, [], upd_same, Nat.le_refl _, fun _ z => (nomatch z)⟩ (fun t G' _ z => SqT.of (z.1 T2 _ (kG1 _ _ eT2J List.not_mem_nil) List.not_mem_nil)) (fun t y G' hy pp => ?_) (fun G' pp => ?_)
      · obtain ⟨kG, vs, eV, lv, hv⟩ := pp
        obtain ⟨dd, gd, dy⟩ := dT2G.getv t hy
        rw [List.getElem?_map] at gd
        obtain ⟨k, gk, rfl⟩ := Option.map_eq_some_iff.mp gd
        obtain ⟨b, ys, rfl, _, eb, db⟩ := tup_at (show Dt [D, R] G y (.tuple [.int k.1, .int k.2]) from dy)
        have hys : ys = [.int k.1, .int k.2] := Dts.unints (ns := [k.1, k.2]) db
        subst hys
        have kin := okj.fit.fin k (List.mem_of_getElem? gk)
        have ht3 := (List.getElem?_eq_some_iff.mp hy).1
        refine ⟨b, _, rfl, SqT.of (kG b _ eb List.not_mem_nil), rfl, _, _, rfl, _, [], rfl, rfl, rfl, .int k.1, rfl, k.1, 0, rfl, rfl, _, rfl, ite2 (fun c => ?_) (fun c => ?_)⟩
        · refine ⟨.int k.1, rfl, vs, eV, Nat.lt_of_lt_of_le (by omega : vs.length < 1000) (small1000 (by omega)), kG.upd nW2, vs ++ [.int k.1], upd_same, by rw [List.length_append]; show vs.length + 1 ≤ _; omega, fun y hy => ?_⟩
          rcases List.mem_append.mp hy with m | m
          · exact hv y m
          · have c' : (0 : Int) < k.1 := of_decide_eq_true c
            rw [List.mem_singleton.mp m]; exact ⟨_, rfl, by omega, by rw [← hlj]; exact kin.2.1⟩
        · exact ⟨kG, vs, eV, by omega, hv⟩
      obtain ⟨kG2, v2, eV2, lv2, hv2⟩ := pp
      refine ⟨W1, W2, _, _, rfl, rfl, kG2 _ _ eV1 List.not_mem_nil, eV2, Nat.le_trans (by omega : v1.length + v2.length ≤ 1000) (small1000 (by omega)), fun S nS => ?_⟩
      have kS := Keep.new (av := []) (o := .lst (v1 ++ v2)) nS
      have eS : (upd G' S (.lst (v1 ++ v2))) S = some (.lst (v1 ++ v2)) := upd_same
      have kGS := kG1.trans (kG2.trans kS)
      generalize upd G' S (.lst (v1 ++ v2)) = GS at kS eS kGS ⊢
      have hv12 : ∀ y ∈ v1 ++ v2, ∃ k : Int, y = .int k ∧ 1 ≤ k ∧ k ≤ lj - 1 := fun y hy => (List.mem_append.mp hy).elim (hv1 y) (hv2 y)
      have l12 : (v1 ++ v2).length ≤ 6 := by rw [List.length_append]; omega
      generalize v1 ++ v2 = v12 at eS hv12 l12
      have dkS := dkJ.keep kGS
      have hS' : S ≠ D ∧ S ≠ C ∧ S ≠ R := (dkJ.keep (kG1.trans kG2)).ne nS
      refine ⟨.int lj, rfl, lj, 1, rfl, rfl, .ref D, rfl, .int lj, rfl, lj, 1, rfl, rfl, D, C, R, _, lj - 1, rfl, by omega, by omega, dkS, by omega, fun Z1 e kZ1 dkZ1 e0 e1 => ⟨1, e, rfl, rfl, .ref S, rfl, show 1 ≤ sizeLine by decide, fun L1 nL1 => ?_⟩⟩
      have eS1 := kZ1 S _ eS (notDR hS'.1 hS'.2.2)
      have kL1 := Keep.new (av := []) (o := .lst [.int 1]) nL1
      refine ⟨S, L1, _, _, rfl, rfl, kL1 S _ eS1 List.not_mem_nil, upd_same, Nat.le_trans (show v12.length + 1 ≤ 1000 by omega) (small1000 (by omega)), fun L2 nL2 => ?_⟩
      obtain ⟨y0, gy0, y1, y2⟩ : ∃ y0 : Int, (v12 ++ [V.int 1])[0]? = some (.int y0) ∧ 1 ≤ y0 ∧ y0 ≤ lj - 1 := by
        cases v12 with
        | nil => exact ⟨1, rfl, by omega, by omega⟩
        | cons y ys =>
          obtain ⟨k, rfl, h1, h2⟩ := hv12 y List.mem_cons_self
          exact ⟨k, rfl, h1, h2⟩
      have kL2 := kL1.trans (Keep.new (av := []) (o := .lst (v12 ++ [V.int 1])) nL2)
      refine ⟨L2, _, 0, .int y0, rfl, rfl, SqL.of upd_same, atI_nat (j := 0) gy0, show 4 ≤ sizeLine by decide, fun L3 nL3 => ?_⟩
      have kL3 := kL2.trans (Keep.new (av := []) (o := .lst [.int 1, .int (lj - 1), .int (1 + e), .int y0]) nL3)
      have eL3 : (upd (upd (upd Z1 L1 (.lst [.int 1])) L2 (.lst (v12 ++ [V.int 1]))) L3 (.lst [.int 1, .int (lj - 1), .int (1 + e), .int y0])) L3 = some (.lst [.int 1, .int (lj - 1), .int (1 + e), .int y0]) := upd_same
      have dkL3 := dkZ1.keep kL3
      have hL3 : L3 ≠ D ∧ L3 ≠ C ∧ L3 ≠ R := (dkZ1.keep kL2).ne nL3
      generalize upd (upd (upd Z1 L1 (.lst [.int 1])) L2 (.lst (v12 ++ [V.int 1]))) L3 (.lst [.int 1, .int (lj - 1), .int (1 + e), .int y0]) = Z3 at kL3 eL3 dkL3 ⊢
      have all4 : ∀ y ∈ ([.int 1, .int (lj - 1), .int (1 + e), .int y0] : List V), ∃ k : Int, y = .int k ∧ 1 ≤ k ∧ k ≤ lj - 1 := fun y hy => by
        simp only [List.mem_cons, List.not_mem_nil, or_false] at hy
        rcases hy with rfl | rfl | rfl | rfl
        · exact ⟨_, rfl, by omega, by omega⟩
        · exact ⟨_, rfl, by omega, by omega⟩
        · exact ⟨_, rfl, by omega, by omega⟩
        · exact ⟨_, rfl, y1, y2⟩
      have l4 : ([.int 1, .int (lj - 1), .int (1 + e), .int y0] : List V).length = 4 := rfl
      generalize ([.int 1, .int (lj - 1), .int (1 + e), .int y0] : List V) = q4 at eL3 all4 l4
      have kJZ : Keep [D, R] J Z3 := kGS.of.trans (kZ1.trans kL3.of)
      refine ⟨L3, rfl, ⟨_, SqL.of eL3⟩, for_list (K := K) (a := L3) (xs := q4) (fun r σ N => ∃ s2 s4 s8 s9 s10 s11 s12, σ = [some (.ref a), some (.ref D), s2, some (.ref p), s4, some (.str kt), some (.int j), some (.int lj), s8, s9, s10, s11, s12] ∧ Keep [D, R] Z3 N ∧ Deck N D C R (20000 * i + 3100 + 200 * t + 3 + 40 * r))
        ⟨_, _, _, _, _, _, _, rfl, Keep.refl _ _, dkL3.mono (by omega)⟩ (fun r σ N _ z => ?_) (fun r y σ N gy pp => ?_) (fun σ N pp => ?_)⟩
      · obtain ⟨_, _, _, _, _, _, _, _, kN, _⟩ := z
        exact SqL.of (kN L3 _ eL3 (notDR hL3.1 hL3.2.2))
      · obtain ⟨s2, s4, s8, s9, s10, s11, s12, rfl, kN, dkN⟩ := pp
        obtain ⟨c, rfl, c0, c1⟩ := all4 y (List.mem_of_getElem? gy)
        have hr4 := (List.getElem?_eq_some_iff.mp gy).1
        refine ⟨.ref D, rfl, .ref p, rfl, .int j, rfl, .int c, rfl, D, C, R, .ref p, _, n, j, c, ps, rfl, dhJ.keep (kJZ.trans kN), ok, j0, j1, c0, by rw [hlj]; exact c1, dkN, by omega, fun N2 kN2 dkN2 => ⟨_, rfl, iteF ?_⟩⟩
        exact ⟨_, _, _, _, _, _, _, rfl, kN.trans kN2, dkN2.mono (by omega)⟩
      · obtain ⟨s2, s4, s8, s9, s10, s11, s12, rfl, kN, dkN⟩ := pp
        exact ⟨_, _, _, _, _, _, _, _, _, rfl, kJ.trans (kJZ.trans kN), dkN.mono (by omega)⟩
end
end Rw

namespace Rw
open PySem PySem.Spec PyProof.Rows L2
theorem has_mk {K : PySem.W.Frag} {h : Heap} {mg : Str → Option Value} {x : Str} {st : Stmt} {f : Addr} (X : K.In h) (G : h.Ns mainGlobals mg) {od an : Option Addr} {sl : Array (Option Value)} {oc kV dc pm cd ct : Value}
    (a : PySem.W.nsIn K mainGlobals x = some (some (.ref f))) (l : K.lookup f = some ⟨oc, od, .func (PySem.W.fnOf x x (defArgs st) (defBody st) (defScope st) .none kV dc pm an cd ct), sl⟩) (c : PySem.W.codeIn K cd x = true) (k : PySem.W.keepIn K (.ref f) = true) : Has K mg x st :=
  ⟨f, _, fun_mk (st := st) l c k, PySem.W.mg_of X G a⟩
theorem cst_mk {K : PySem.W.Frag} {h : Heap} {mg : Str → Option Value} {x : Str} {i : Int} {t : Tok} (X : K.In h) (G : h.Ns mainGlobals mg) (a : PySem.W.nsIn K mainGlobals x = some (some (.int i t))) : ∃ t, mg x = some (.int i t) := ⟨t, PySem.W.mg_of X G a⟩
def HasPlan (K : PySem.W.Frag) (mg : Str → Option Value) : Prop := ∃ C f fd, Mk K C f ∧ Fun K "__init__" "Plan.__init__" sInit f fd ∧ mg "Plan" = some (.ref C) ∧ PlanTxt K C
theorem plan_has {K : PySem.W.Frag} {h : Heap} {mg : Str → Option Value} {C f : Addr} (X : K.In h) (G : h.Ns mainGlobals mg) {od an : Option Addr} {sl : Array (Option Value)} {oc kV dc pm cd ct : Value} (aC : PySem.W.nsIn K mainGlobals "Plan" = some (some (.ref C))) (a1 : PySem.W.findIn K (.ref C) "__init__" = some (some (.ref f))) (i1 : PySem.W.isFn K (.ref f) = true)
    (l1 : K.lookup f = some ⟨oc, od, .func (PySem.W.fnOf "__init__" "Plan.__init__" (defArgs sInit) (defBody sInit) (defScope sInit) .none kV dc pm an cd ct), sl⟩) (c1 : PySem.W.codeIn K cd "Plan.__init__" = true) (k1 : PySem.W.keepIn K (.ref f) = true) (pg : PySem.W.plainGet K C Str.empty = true) (hd : PySem.W.hasDictIn K C = true) (po : PySem.W.plainOver K C = true)
    (sa : PySem.W.findIn K (.ref C) "__setattr__" = some (some (.builtin "object.__setattr__"))) (mk : PySem.W.makesIn K C = true) (kc : PySem.W.keepIn K (.ref C) = true) (n1 : PySem.W.findIn K (.ref C) "built" = some none) (n2 : PySem.W.findIn K (.ref C) "pipes" = some none) (n3 : PySem.W.findIn K (.ref C) "doors" = some none) (n4 : PySem.W.findIn K (.ref C) "gaps" = some none) (n5 : PySem.W.findIn K (.ref C) "towards" = some none) : HasPlan K mg :=
  ⟨C, f, _, ⟨mk, a1, i1, kc⟩, fun_mk (st := sInit) l1 c1 k1, PySem.W.mg_of X G aC, ⟨⟨pg, hd, po, sa⟩, n1, n2, n3, n4, n5⟩⟩
def HasErr (K : PySem.W.Frag) (mg : Str → Option Value) (nm fld qn : Str) (st : Stmt) (C : Addr) : Prop := ErrT K mg nm fld C ∧ ∃ fI fd, Fun K "__init__" qn st fI fd ∧ PySem.W.findIn K (.ref C) "__init__" = some (some (.ref fI)) ∧ PySem.W.typeIn K (.ref fI) = some (.type "function")
theorem err_has {K : PySem.W.Frag} {h : Heap} {mg : Str → Option Value} {nm fld qn : Str} {st : Stmt} {C fI : Addr} (X : K.In h) (G : h.Ns mainGlobals mg) {od an : Option Addr} {sl : Array (Option Value)} {oc kV dc pm cd ct : Value} {n' q : Str} {N : Addr} {bs bm : List Value} {sn : List Str} {sub : List Value} {ab : Bool} {col : Option Bool} {dd : Option Addr} {k0 k1 k2 k3 k5 : Option Value}
    (aC : PySem.W.nsIn K mainGlobals nm = some (some (.ref C))) (xL : K.lookup C = some (excClassObj n' q C N bs bm true sn sub ab col dd k0 k1 k2 k3 k5 "ValueError.__new__")) (rv : PySem.HandSPX.refsVE bm = true) (sa : PySem.W.findIn K (.ref C) "__setattr__" = some (some (.builtin "object.__setattr__"))) (exC : PySem.W.subIn K (.ref C) (.type "BaseException") = some true) (tyC : PySem.W.typeIn K (.ref C) = some (.type "type")) (kC : PySem.W.keepIn K (.ref C) = true)
    (ga : PySem.W.findIn K (.ref C) "__getattribute__" = some (some (.builtin "BaseException.__getattribute__"))) (gg : PySem.W.findIn K (.ref C) "__getattr__" = some none) (hdC : PySem.W.hasDictIn K C = true) (no : PySem.W.findIn K (.ref C) fld = some none) (cc : PySem.W.findIn K (.ref C) "__class__" = some (some (.builtin "object.__class__")))
    (gs : PySem.W.specialIn K (.builtin "object.__class__") "__get__" = some (some (.builtin "getset_descriptor.__get__"))) (tk : PySem.W.takesIn K (.builtin "object.__class__") = some true) (mo : PySem.W.mroIn K C (.type "object") = some true)
    (iC : PySem.W.findIn K (.ref C) "__init__" = some (some (.ref fI))) (tI : PySem.W.typeIn K (.ref fI) = some (.type "function")) (lI : K.lookup fI = some ⟨oc, od, .func (PySem.W.fnOf "__init__" qn (defArgs st) (defBody st) (defScope st) .none kV dc pm an cd ct), sl⟩) (cI : PySem.W.codeIn K cd qn = true) (kI : PySem.W.keepIn K (.ref fI) = true) : HasErr K mg nm fld qn st C :=
  ⟨⟨PySem.W.mg_of X G aC, ⟨⟨_, _, _, _, _, _, _, _, _, _, _, _, _, _, _, xL, rv⟩, sa, exC, tyC, kC⟩, ⟨ga, gg, exC, hdC⟩, no, ⟨by obtain ⟨c', hc', _⟩ := PySem.W.any_some hdC; rw [hc']; rfl, ga, gg, exC, cc, gs, tk, mo⟩⟩, fI, _, fun_mk (st := st) lI cI kI, iC, tI⟩
theorem end_all {P : Program} {w : World} {K : PySem.W.Frag} {mg : Str → Option Value} {fa : Addr} {CNoPipe CNoAt CFull CNoBy CNoRoom CWarrenError : Addr} (B : Blt mg) (hfa : mg "law" = some (.ref fa)) (hL : Has K mg "law" sLaw)
    (m_zip : mg "zip" = none)
    (c_ROOMS : ∃ t, mg "ROOMS" = some (.int 16 t))
    (c_LONG : ∃ t, mg "LONG" = some (.int 1000000000000 t))
    (c_WIDE : ∃ t, mg "WIDE" = some (.int 1000000 t))
    (c_NARROWS : ∃ t, mg "NARROWS" = some (.int 12 t))
    (c_FLAPS : ∃ t, mg "FLAPS" = some (.int 6 t))
    (hP : HasPlan K mg)
    (XNoPipe : HasErr K mg "NoPipe" "pipe" "NoPipe.__init__" sENoPipe CNoPipe)
    (XNoAt : HasErr K mg "NoAt" "at" "NoAt.__init__" sENoAt CNoAt)
    (XFull : HasErr K mg "Full" "what" "Full.__init__" sEFull CFull)
    (XNoBy : HasErr K mg "NoBy" "by" "NoBy.__init__" sENoBy CNoBy)
    (XNoRoom : HasErr K mg "NoRoom" "room" "NoRoom.__init__" sENoRoom CNoRoom)
    (gWarrenError : mg "WarrenError" = some (.ref CWarrenError))
    (xf : Told7 K CNoPipe CNoAt CFull CNoBy CNoRoom CWarrenError)
    (h1 : Has K mg "_law_deck" sDeck)
    (h2 : Has K mg "_law_next" sNext)
    (h3 : Has K mg "_law_one" sOne)
    (h4 : Has K mg "_law_edge" sEdge)
    (h5 : Has K mg "_law_spots" sSpots)
    (h6 : Has K mg "_law_length" sLength)
    (h7 : Has K mg "_law_pipe" sPipe)
    (h8 : Has K mg "_law_house" sHouse)
    (h9 : Has K mg "doors_of" sDoors)
    (h10 : Has K mg "spread_from" sSpread)
    (h11 : Has K mg "are_in_one_pipe" sOnePipe)
    (h12 : Has K mg "exits_of" sExits)
    (h13 : Has K mg "shortest" sShort)
    (h14 : Has K mg "gap_of" sGap)
    (h15 : Has K mg "distance_of" sDist)
    (h16 : Has K mg "is_whole" sWhole)
    (h17 : Has K mg "is_within" sWithin)
    (h18 : Has K mg "is_tuple_of" sTupOf)
    (h19 : Has K mg "are_rising_pairs" sRPs)
    (h20 : Has K mg "is_house" sIH)
    (h21 : Has K mg "is_pipe" sIP)
    (h22 : Has K mg "are_narrows" sAN)
    (h23 : Has K mg "are_flaps" sAF)
    (h24 : Has K mg "is_flap_way" sFW)
    (h25 : Has K mg "joins_all" sJA)
    (h26 : Has K mg "holds_few" sHF)
    (h27 : Has K mg "is_place" sPlaceP)
    (h28 : Has K mg "with_pipe" sWP)
    (h29 : Has K mg "refuse_no_pipe" sRNP)
    (h30 : Has K mg "refuse_full_rooms" sRFR)
    (h31 : Has K mg "refuse_no_half" sRNH)
    (h32 : Has K mg "place_halved" sPH)
    (h33 : Has K mg "halved" sHv)
    (h34 : Has K mg "_law_same" sSame)
    (h35 : Has K mg "_law_named" sNamed)
    (h36 : Has K mg "_law_place" sPlaceL)
    (h37 : Has K mg "_law_told" sTold)
    (h38 : Has K mg "_law_odd" sOdd)
    (h39 : Has K mg "_law_due" sDue)
    (h40 : Has K mg "_law_due_place" sDP)
    (h41 : Has K mg "_law_refused_right" sRR)
    (h42 : Has K mg "_law_halved_right" sHR)
    : ∃ fd : FuncData, (∀ (s : Shared) (u : Value), BindsTo s fd ⟨[u], []⟩ [("_law_script", u)]) ∧ ∀ base : Heap, K.In base → base.Ns mainGlobals mg → AtTop P w K mg base fa fd "_law_script" (spLaw K) := by
  obtain ⟨f, fd, F, g⟩ := hL
  have e := hfa.symm.trans g
  cases e
  obtain ⟨CP, fI, fdI, MI, FI, gI, XP⟩ := hP
  obtain ⟨TNoPipe, fNoPipe, fdNoPipe, FNoPipe, iNoPipe, tNoPipe⟩ := XNoPipe
  obtain ⟨TNoAt, fNoAt, fdNoAt, FNoAt, iNoAt, tNoAt⟩ := XNoAt
  obtain ⟨TFull, fFull, fdFull, FFull, iFull, tFull⟩ := XFull
  obtain ⟨TNoBy, fNoBy, fdNoBy, FNoBy, iNoBy, tNoBy⟩ := XNoBy
  obtain ⟨TNoRoom, fNoRoom, fdNoRoom, FNoRoom, iNoRoom, tNoRoom⟩ := XNoRoom
  have all : ∀ base : Heap, (∀ (s : Shared) (u : Value), BindsTo s fd ⟨[u], []⟩ [("_law_script", u)]) ∧ AtTop P w K mg base fa fd "_law_script" (spLaw K) := fun base => by
    have ENoPipe : CanE P w K mg base "NoPipe" "pipe" CNoPipe := okENoPipe FNoPipe TNoPipe iNoPipe tNoPipe
    have ENoAt : CanE P w K mg base "NoAt" "at" CNoAt := okENoAt FNoAt TNoAt iNoAt tNoAt
    have EFull : CanE P w K mg base "Full" "what" CFull := okEFull FFull TFull iFull tFull
    have ENoBy : CanE P w K mg base "NoBy" "by" CNoBy := okENoBy FNoBy TNoBy iNoBy tNoBy
    have ENoRoom : CanE P w K mg base "NoRoom" "room" CNoRoom := okENoRoom FNoRoom TNoRoom iNoRoom tNoRoom
    have cD : Can P w K mg base _ _ _ _ := ok_deck h1 B
    have cN : Can P w K mg base _ _ _ _ := ok_next h2 B
    have cO := ok_one h3 B cN
    have cE := ok_edge h4 B cN cO
    have cS := ok_spots h5 B cE
    have cL := ok_length h6 cN cO
    have cPi := ok_pipe h7 B cN cE cS cL
    have cH := ok_house h8 B cN cPi
    have cDo : Can P w K mg base _ _ _ _ := ok_doors h9 B
    have cSp : Can P w K mg base _ _ _ _ := ok_spread h10 B
    have cPl := (⟨fI, fdI, MI, ok_init FI B XP cDo cSp, gI, FI.binds fun _ _ _ _ _ _ us hl => match us, hl with | [_, _], _ => rfl⟩ : CanMk P w K mg base "Plan" CP ["self", "house"] 2 (spInit CP))
    have cOP : Can P w K mg base _ _ _ _ := ok_onePipe h11 B
    have cEx : Can P w K mg base _ _ _ _ := ok_exits h12 B XP
    have cSh := ok_short h13 B XP cEx
    have cGa := ok_gap h14 B cOP cSh
    have cQ := ok_dist h15 cPl cGa
    have cWh : Can P w K mg base _ _ _ _ := ok_whole h16 B
    have cWi := ok_within h17 cWh
    have cTO : Can P w K mg base _ _ _ _ := ok_tupOf h18 B
    have cFW := ok_fW h24 cWh
    have cRPs := ok_rPs h19 B cTO cWi
    have cAN := ok_aN h22 B c_WIDE cRPs cWi
    have cAF := ok_aF h23 B cRPs cFW
    have cIP := ok_iP h21 c_LONG cTO cWi cAN cAF
    have cJA : Can P w K mg base _ _ _ _ := ok_jA h25 B
    have cHF : Can P w K mg base _ _ _ _ := ok_hF h26 B c_NARROWS c_FLAPS
    have cIH := ok_iH h20 c_ROOMS cTO cWi cIP cJA cHF
    have cPP := ok_placeP h27 B cTO cWi
    have cWP : Can P w K mg base _ _ _ _ := ok_wP h28
    have cRN := ok_rNP h29 B cWi ENoPipe
    have cRF := ok_rFR h30 c_ROOMS EFull
    have cNH := ok_rNH h31 cWi ENoAt cRN cRF
    have cPH := ok_pH h32 B cNH
    have cHv := ok_hv h33 B cWP cNH
    have cSa : Can P w K mg base _ _ _ _ := ok_sameS h34 B 6
    have cNm : Can P w K mg base _ _ _ _ := ok_named h35 B
    have cLP := ok_placeL h36 B cN cE cNm
    have cTd := ok_told h37 B TNoPipe TNoAt TFull TNoBy TNoRoom gWarrenError xf cHv cPH
    have cOd := ok_odd h38 cN
    have cDu : Can P w K mg base _ _ _ _ := ok_due h39 B
    have cDP : Can P w K mg base _ _ _ _ := ok_dP h40 B
    have cRR := ok_rR h41 B cN cO cOd cSa cTd
    have cHR := ok_hR h42 B m_zip cLP cDu cDP cNm cIH cPP cQ cSa cTd
    exact ok_law F B cD cN cH cLP cE cRR cHR
  exact ⟨fd, (all Inhabited.default).1, fun base _ _ => (all base).2⟩
end Rw
open PySem PySem.W PyProof.Rows
set_option maxHeartbeats 0 in
theorem PySem.Challenge.cw_ropewarren_k07_houses_halved_holds : PySem.Challenge.rw_ropewarren_k07_houses_halved.Holds := by
  w_on; o_law; k_head; (case hw => w_witness2)
  k_fill
  refine Rw.walk_top (l := PySem.Challenge.rw_ropewarren_k07_houses_halved) (n := 63) (x := "_law_script") (sp := fun w => Rw.spLaw _) rfl (by decide) rfl (fun w h Y => PySem.W.kIn_of Y) ?F (fun _ _ a ns hl _ hS => ⟨a, ns, rfl, hS, hl, fun _ => rfl⟩)
  case F =>
    intro w mg fa h KX G hmg0
    have hmg : mg "law" = some (.ref fa) := hmg0
    clear hmg0
    refine' Rw.end_all (mg := mg) ?B hmg ?hL ?m_zip ?c_ROOMS ?c_LONG ?c_WIDE ?c_NARROWS ?c_FLAPS  ?hP ?X_NoPipe ?X_NoAt ?X_Full ?X_NoBy ?X_NoRoom ?g_WarrenError ?f_xf ?h1 ?h2 ?h3 ?h4 ?h5 ?h6 ?h7 ?h8 ?h9 ?h10 ?h11 ?h12 ?h13 ?h14 ?h15 ?h16 ?h17 ?h18 ?h19 ?h20 ?h21 ?h22 ?h23 ?h24 ?h25 ?h26 ?h27 ?h28 ?h29 ?h30 ?h31 ?h32 ?h33 ?h34 ?h35 ?h36 ?h37 ?h38 ?h39 ?h40 ?h41 ?h42
    case B =>
      refine' ⟨PySem.W.mg_none_of KX G ?b1, PySem.W.mg_none_of KX G ?b2, PySem.W.mg_none_of KX G ?b3, PySem.W.mg_none_of KX G ?b4, PySem.W.mg_none_of KX G ?b5, PySem.W.mg_none_of KX G ?b6, PySem.W.mg_none_of KX G ?b7, PySem.W.mg_none_of KX G ?b8, PySem.W.mg_none_of KX G ?b9, PySem.W.mg_none_of KX G ?b10, PySem.W.mg_none_of KX G ?b11, PySem.W.mg_none_of KX G ?b12, PySem.W.mg_none_of KX G ?b13, PySem.W.mg_none_of KX G ?b14, PySem.W.mg_none_of KX G ?b15, PySem.W.mg_none_of KX G ?b16, PySem.W.mg_none_of KX G ?b17, PySem.W.mg_none_of KX G ?b18, PySem.W.mg_none_of KX G ?b19⟩
      (case b1 => k_is)
      (case b2 => k_is)
      (case b3 => k_is)
      (case b4 => k_is)
      (case b5 => k_is)
      (case b6 => k_is)
      (case b7 => k_is)
      (case b8 => k_is)
      (case b9 => k_is)
      (case b10 => k_is)
      (case b11 => k_is)
      (case b12 => k_is)
      (case b13 => k_is)
      (case b14 => k_is)
      (case b15 => k_is)
      (case b16 => k_is)
      (case b17 => k_is)
      (case b18 => k_is)
      (case b19 => k_is)
    case m_zip =>
      refine' PySem.W.mg_none_of KX G ?a
      (case a => k_is)
    case c_ROOMS =>
      refine' Rw.cst_mk KX G ?a
      (case a => k_is)
    case c_LONG =>
      refine' Rw.cst_mk KX G ?a
      (case a => k_is)
    case c_WIDE =>
      refine' Rw.cst_mk KX G ?a
      (case a => k_is)
    case c_NARROWS =>
      refine' Rw.cst_mk KX G ?a
      (case a => k_is)
    case c_FLAPS =>
      refine' Rw.cst_mk KX G ?a
      (case a => k_is)
    case hP =>
      refine' Rw.plan_has KX G ?aC ?a1 ?i1 ?l1 ?c1 ?k1 ?pg ?hd ?po ?sa ?mk ?kc ?n1 ?n2 ?n3 ?n4 ?n5
      (case aC => k_is)
      (case a1 => k_is)
      (case i1 => k_is)
      (case l1 => k_is)
      (case c1 => k_is)
      (case k1 => k_is)
      (case pg => k_is)
      (case hd => k_is)
      (case po => k_is)
      (case sa => k_is)
      (case mk => k_is)
      (case kc => k_is)
      (case n1 => k_is)
      (case n2 => k_is)
      (case n3 => k_is)
      (case n4 => k_is)
      (case n5 => k_is)
    case X_NoPipe =>
      refine' Rw.err_has KX G ?aC ?xL ?rv ?sa ?exC ?tyC ?kC ?ga ?gg ?hdC ?no ?cc ?gs ?tk ?mo ?iC ?tI ?lI ?cI ?kI
      (case aC => k_is)
      (case xL => k_is)
      (case rv => decide +kernel)
      (case sa => k_is)
      (case exC => k_is)
      (case tyC => k_is)
      (case kC => k_is)
      (case ga => k_is)
      (case gg => k_is)
      (case hdC => k_is)
      (case no => k_is)
      (case cc => k_is)
      (case gs => k_is)
      (case tk => k_is)
      (case mo => k_is)
      (case iC => k_is)
      (case tI => k_is)
      (case lI => k_is)
      (case cI => k_is)
      (case kI => k_is)
    case X_NoAt =>
      refine' Rw.err_has KX G ?aC ?xL ?rv ?sa ?exC ?tyC ?kC ?ga ?gg ?hdC ?no ?cc ?gs ?tk ?mo ?iC ?tI ?lI ?cI ?kI
      (case aC => k_is)
      (case xL => k_is)
      (case rv => decide +kernel)
      (case sa => k_is)
      (case exC => k_is)
      (case tyC => k_is)
      (case kC => k_is)
      (case ga => k_is)
      (case gg => k_is)
      (case hdC => k_is)
      (case no => k_is)
      (case cc => k_is)
      (case gs => k_is)
      (case tk => k_is)
      (case mo => k_is)
      (case iC => k_is)
      (case tI => k_is)
      (case lI => k_is)
      (case cI => k_is)
      (case kI => k_is)
    case X_Full =>
      refine' Rw.err_has KX G ?aC ?xL ?rv ?sa ?exC ?tyC ?kC ?ga ?gg ?hdC ?no ?cc ?gs ?tk ?mo ?iC ?tI ?lI ?cI ?kI
      (case aC => k_is)
      (case xL => k_is)
      (case rv => decide +kernel)
      (case sa => k_is)
      (case exC => k_is)
      (case tyC => k_is)
      (case kC => k_is)
      (case ga => k_is)
      (case gg => k_is)
      (case hdC => k_is)
      (case no => k_is)
      (case cc => k_is)
      (case gs => k_is)
      (case tk => k_is)
      (case mo => k_is)
      (case iC => k_is)
      (case tI => k_is)
      (case lI => k_is)
      (case cI => k_is)
      (case kI => k_is)
    case X_NoBy =>
      refine' Rw.err_has KX G ?aC ?xL ?rv ?sa ?exC ?tyC ?kC ?ga ?gg ?hdC ?no ?cc ?gs ?tk ?mo ?iC ?tI ?lI ?cI ?kI
      (case aC => k_is)
      (case xL => k_is)
      (case rv => decide +kernel)
      (case sa => k_is)
      (case exC => k_is)
      (case tyC => k_is)
      (case kC => k_is)
      (case ga => k_is)
      (case gg => k_is)
      (case hdC => k_is)
      (case no => k_is)
      (case cc => k_is)
      (case gs => k_is)
      (case tk => k_is)
      (case mo => k_is)
      (case iC => k_is)
      (case tI => k_is)
      (case lI => k_is)
      (case cI => k_is)
      (case kI => k_is)
    case X_NoRoom =>
      refine' Rw.err_has KX G ?aC ?xL ?rv ?sa ?exC ?tyC ?kC ?ga ?gg ?hdC ?no ?cc ?gs ?tk ?mo ?iC ?tI ?lI ?cI ?kI
      (case aC => k_is)
      (case xL => k_is)
      (case rv => decide +kernel)
      (case sa => k_is)
      (case exC => k_is)
      (case tyC => k_is)
      (case kC => k_is)
      (case ga => k_is)
      (case gg => k_is)
      (case hdC => k_is)
      (case no => k_is)
      (case cc => k_is)
      (case gs => k_is)
      (case tk => k_is)
      (case mo => k_is)
      (case iC => k_is)
      (case tI => k_is)
      (case lI => k_is)
      (case cI => k_is)
      (case kI => k_is)
    case g_WarrenError =>
      refine' PySem.W.mg_of KX G ?a
      (case a => k_is)
    case f_xf =>
      refine' ⟨?x0, ?x1, ?x2, ?x3, ?x4, ?x5, ?x6, ?x7, ?x8, ?x9⟩
      (case x0 => first | rfl | k_is)
      (case x1 => first | rfl | k_is)
      (case x2 => first | rfl | k_is)
      (case x3 => first | rfl | k_is)
      (case x4 => first | rfl | k_is)
      (case x5 => first | rfl | k_is)
      (case x6 => first | rfl | k_is)
      (case x7 => first | rfl | k_is)
      (case x8 => first | rfl | k_is)
      (case x9 => first | rfl | k_is)
    case hL =>
      refine' Rw.has_mk KX G ?a ?l ?c ?k
      (case a => k_is); (case l => k_is); (case c => k_is); (case k => k_is)
    case h1 =>
      refine' Rw.has_mk KX G ?a ?l ?c ?k
      (case a => k_is); (case l => k_is); (case c => k_is); (case k => k_is)
    case h2 =>
      refine' Rw.has_mk KX G ?a ?l ?c ?k
      (case a => k_is); (case l => k_is); (case c => k_is); (case k => k_is)
    case h3 =>
      refine' Rw.has_mk KX G ?a ?l ?c ?k
      (case a => k_is); (case l => k_is); (case c => k_is); (case k => k_is)
    case h4 =>
      refine' Rw.has_mk KX G ?a ?l ?c ?k
      (case a => k_is); (case l => k_is); (case c => k_is); (case k => k_is)
    case h5 =>
      refine' Rw.has_mk KX G ?a ?l ?c ?k
      (case a => k_is); (case l => k_is); (case c => k_is); (case k => k_is)
    case h6 =>
      refine' Rw.has_mk KX G ?a ?l ?c ?k
      (case a => k_is); (case l => k_is); (case c => k_is); (case k => k_is)
    case h7 =>
      refine' Rw.has_mk KX G ?a ?l ?c ?k
      (case a => k_is); (case l => k_is); (case c => k_is); (case k => k_is)
    case h8 =>
      refine' Rw.has_mk KX G ?a ?l ?c ?k
      (case a => k_is); (case l => k_is); (case c => k_is); (case k => k_is)
    case h9 =>
      refine' Rw.has_mk KX G ?a ?l ?c ?k
      (case a => k_is); (case l => k_is); (case c => k_is); (case k => k_is)
    case h10 =>
      refine' Rw.has_mk KX G ?a ?l ?c ?k
      (case a => k_is); (case l => k_is); (case c => k_is); (case k => k_is)
    case h11 =>
      refine' Rw.has_mk KX G ?a ?l ?c ?k
      (case a => k_is); (case l => k_is); (case c => k_is); (case k => k_is)
    case h12 =>
      refine' Rw.has_mk KX G ?a ?l ?c ?k
      (case a => k_is); (case l => k_is); (case c => k_is); (case k => k_is)
    case h13 =>
      refine' Rw.has_mk KX G ?a ?l ?c ?k
      (case a => k_is); (case l => k_is); (case c => k_is); (case k => k_is)
    case h14 =>
      refine' Rw.has_mk KX G ?a ?l ?c ?k
      (case a => k_is); (case l => k_is); (case c => k_is); (case k => k_is)
    case h15 =>
      refine' Rw.has_mk KX G ?a ?l ?c ?k
      (case a => k_is); (case l => k_is); (case c => k_is); (case k => k_is)
    case h16 =>
      refine' Rw.has_mk KX G ?a ?l ?c ?k
      (case a => k_is); (case l => k_is); (case c => k_is); (case k => k_is)
    case h17 =>
      refine' Rw.has_mk KX G ?a ?l ?c ?k
      (case a => k_is); (case l => k_is); (case c => k_is); (case k => k_is)
    case h18 =>
      refine' Rw.has_mk KX G ?a ?l ?c ?k
      (case a => k_is); (case l => k_is); (case c => k_is); (case k => k_is)
    case h19 =>
      refine' Rw.has_mk KX G ?a ?l ?c ?k
      (case a => k_is); (case l => k_is); (case c => k_is); (case k => k_is)
    case h20 =>
      refine' Rw.has_mk KX G ?a ?l ?c ?k
      (case a => k_is); (case l => k_is); (case c => k_is); (case k => k_is)
    case h21 =>
      refine' Rw.has_mk KX G ?a ?l ?c ?k
      (case a => k_is); (case l => k_is); (case c => k_is); (case k => k_is)
    case h22 =>
      refine' Rw.has_mk KX G ?a ?l ?c ?k
      (case a => k_is); (case l => k_is); (case c => k_is); (case k => k_is)
    case h23 =>
      refine' Rw.has_mk KX G ?a ?l ?c ?k
      (case a => k_is); (case l => k_is); (case c => k_is); (case k => k_is)
    case h24 =>
      refine' Rw.has_mk KX G ?a ?l ?c ?k
      (case a => k_is); (case l => k_is); (case c => k_is); (case k => k_is)
    case h25 =>
      refine' Rw.has_mk KX G ?a ?l ?c ?k
      (case a => k_is); (case l => k_is); (case c => k_is); (case k => k_is)
    case h26 =>
      refine' Rw.has_mk KX G ?a ?l ?c ?k
      (case a => k_is); (case l => k_is); (case c => k_is); (case k => k_is)
    case h27 =>
      refine' Rw.has_mk KX G ?a ?l ?c ?k
      (case a => k_is); (case l => k_is); (case c => k_is); (case k => k_is)
    case h28 =>
      refine' Rw.has_mk KX G ?a ?l ?c ?k
      (case a => k_is); (case l => k_is); (case c => k_is); (case k => k_is)
    case h29 =>
      refine' Rw.has_mk KX G ?a ?l ?c ?k
      (case a => k_is); (case l => k_is); (case c => k_is); (case k => k_is)
    case h30 =>
      refine' Rw.has_mk KX G ?a ?l ?c ?k
      (case a => k_is); (case l => k_is); (case c => k_is); (case k => k_is)
    case h31 =>
      refine' Rw.has_mk KX G ?a ?l ?c ?k
      (case a => k_is); (case l => k_is); (case c => k_is); (case k => k_is)
    case h32 =>
      refine' Rw.has_mk KX G ?a ?l ?c ?k
      (case a => k_is); (case l => k_is); (case c => k_is); (case k => k_is)
    case h33 =>
      refine' Rw.has_mk KX G ?a ?l ?c ?k
      (case a => k_is); (case l => k_is); (case c => k_is); (case k => k_is)
    case h34 =>
      refine' Rw.has_mk KX G ?a ?l ?c ?k
      (case a => k_is); (case l => k_is); (case c => k_is); (case k => k_is)
    case h35 =>
      refine' Rw.has_mk KX G ?a ?l ?c ?k
      (case a => k_is); (case l => k_is); (case c => k_is); (case k => k_is)
    case h36 =>
      refine' Rw.has_mk KX G ?a ?l ?c ?k
      (case a => k_is); (case l => k_is); (case c => k_is); (case k => k_is)
    case h37 =>
      refine' Rw.has_mk KX G ?a ?l ?c ?k
      (case a => k_is); (case l => k_is); (case c => k_is); (case k => k_is)
    case h38 =>
      refine' Rw.has_mk KX G ?a ?l ?c ?k
      (case a => k_is); (case l => k_is); (case c => k_is); (case k => k_is)
    case h39 =>
      refine' Rw.has_mk KX G ?a ?l ?c ?k
      (case a => k_is); (case l => k_is); (case c => k_is); (case k => k_is)
    case h40 =>
      refine' Rw.has_mk KX G ?a ?l ?c ?k
      (case a => k_is); (case l => k_is); (case c => k_is); (case k => k_is)
    case h41 =>
      refine' Rw.has_mk KX G ?a ?l ?c ?k
      (case a => k_is); (case l => k_is); (case c => k_is); (case k => k_is)
    case h42 =>
      refine' Rw.has_mk KX G ?a ?l ?c ?k
      (case a => k_is); (case l => k_is); (case c => k_is); (case k => k_is)
