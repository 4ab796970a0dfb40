import PyProof.Rows.All
import Wide.All
import OpenK.AllK
import Wide.FinOn
import PyProof.ReprRoads
import HandS.ForMost
import HandS.Flow
import HandS.Wide
import HandS.IsInst
import HandS.Strs
import HandS.SetFor
import HandS.TupAny
import HandS.Rev
import HandS.NoneIn
import HandS.Style
import HandS.SortInts
import HandS.More
import KE.DataMinMax
import KE.GoesMore
import KE.DatumOrd
import KE.KDictDisplayH
import KE.SortData
import HandS.Conv
import HandS.Walk
import HandS.DictSub
import HandS.Text
import HandS.FStr
import HandS.Deep
import HandS.RaiseMore
import PySem.Challenge.RW_ropewarren_k86_house_texts
set_option Elab.async false
set_option linter.all false
set_option maxRecDepth 100000
set_option maxHeartbeats 4000000
namespace Rw
open PySem PySem.Spec PyProof.Rows L2
/-! heaps of which all but a few addresses stay -/
def Keep (av : List Addr) (H H' : Hp) : Prop := ∀ b o, H b = some o → b ∉ av → H' b = some o
theorem Keep.refl (av : List Addr) (H : Hp) : Keep av H H := fun _ _ e _ => e
theorem Keep.trans {av : List Addr} {H H1 H2 : Hp} (x : Keep av H H1) (y : Keep av H1 H2) : Keep av H H2 := fun b o e n => y b o (x b o e n) n
theorem Keep.new {av : List Addr} {H : Hp} {p : Addr} {o : HO} (n : H p = none) : Keep av H (upd H p o) := fun b z e _ => by
  rw [upd_ne (ne_of_none e n)]; exact e
theorem Keep.put {av : List Addr} {H : Hp} {p : Addr} {o : HO} (n : p ∈ av) : Keep av H (upd H p o) := fun b z e nb => by
  rw [upd_ne (show b ≠ p from fun q => nb (by rw [q]; exact n))]; exact e
theorem Keep.mono {av av' : List Addr} {H H' : Hp} (x : Keep av H H') (s : ∀ a ∈ av, a ∈ av') : Keep av' H H' := fun b o e n => x b o e fun q => n (s b q)
/-! a fresh address may be left out of what is left out -/
theorem Keep.drop {av : List Addr} {H H' : Hp} {p : Addr} (n : H p = none) (x : Keep (p :: av) H H') : Keep av H H' := fun b o e nb => x b o e fun q => by
  rcases List.mem_cons.mp q with q | q
  · exact ne_of_none e n q
  · exact nb q
/-! data: what stands at a value, without the addresses av -/
mutual
inductive Dt (av : List Addr) (H : Hp) : V → PyData → Prop
  | non : Dt av H .non .none
  | bl (b : Bool) : Dt av H (.bl b) (.bool b)
  | int (i : Int) : Dt av H (.int i) (.int i)
  | str (x : Str) : Dt av H (.str x) (.str x)
  | lst {a : Addr} {xs : List V} {ds : List PyData} : a ∉ av → H a = some (.lst xs) → Dts av H xs ds → Dt av H (.ref a) (.list ds)
  | tup {a : Addr} {xs : List V} {ds : List PyData} : a ∉ av → H a = some (.tup xs) → Dts av H xs ds → Dt av H (.ref a) (.tuple ds)
  | dct {a : Addr} : a ∉ av → H a = some (.dK []) → Dt av H (.ref a) (.dict [])
inductive Dts (av : List Addr) (H : Hp) : List V → List PyData → Prop
  | nil : Dts av H [] []
  | cons {v : V} {vs : List V} {d : PyData} {ds : List PyData} : Dt av H v d → Dts av H vs ds → Dts av H (v :: vs) (d :: ds)
end
mutual
theorem Dt.map {av av' : List Addr} {H H' : Hp} (f : ∀ b o, H b = some o → b ∉ av → H' b = some o ∧ b ∉ av') : ∀ (d : PyData) (v : V), Dt av H v d → Dt av' H' v d
  | _, _, .non => .non
  | _, _, .bl b => .bl b
  | _, _, .int i => .int i
  | _, _, .str x => .str x
  | .list ds, _, .lst n e s => .lst (f _ _ e n).2 (f _ _ e n).1 (Dts.map f ds _ s)
  | .tuple ds, _, .tup n e s => .tup (f _ _ e n).2 (f _ _ e n).1 (Dts.map f ds _ s)
  | _, _, .dct n e => .dct (f _ _ e n).2 (f _ _ e n).1
theorem Dts.map {av av' : List Addr} {H H' : Hp} (f : ∀ b o, H b = some o → b ∉ av → H' b = some o ∧ b ∉ av') : ∀ (ds : List PyData) (vs : List V), Dts av H vs ds → Dts av' H' vs ds
  | _, _, .nil => .nil
  | d :: ds, _, .cons h t => .cons (Dt.map f d _ h) (Dts.map f ds _ t)
end
theorem Dt.keep {av : List Addr} {H H' : Hp} {v : V} {d : PyData} (x : Dt av H v d) (k : Keep av H H') : Dt av H' v d := Dt.map (fun b o e n => ⟨k b o e n, n⟩) d v x
theorem Dts.keep {av : List Addr} {H H' : Hp} {v : List V} {d : List PyData} (x : Dts av H v d) (k : Keep av H H') : Dts av H' v d := Dts.map (fun b o e n => ⟨k b o e n, n⟩) d v x
theorem Dt.more {av : List Addr} {H : Hp} {v : V} {d : PyData} {p : Addr} (x : Dt av H v d) (n : H p = none) : Dt (p :: av) H v d :=
  Dt.map (fun b o e nb => ⟨e, fun q => (List.mem_cons.mp q).elim (ne_of_none e n) nb⟩) d v x
theorem Dts.more {av : List Addr} {H : Hp} {v : List V} {d : List PyData} {p : Addr} (x : Dts av H v d) (n : H p = none) : Dts (p :: av) H v d :=
  Dts.map (fun b o e nb => ⟨e, fun q => (List.mem_cons.mp q).elim (ne_of_none e n) nb⟩) d v x
theorem Dt.less {av av' : List Addr} {H : Hp} {v : V} {d : PyData} (x : Dt av H v d) (s : ∀ a ∈ av', a ∈ av) : Dt av' H v d :=
  Dt.map (fun b o e nb => ⟨e, fun q => nb (s b q)⟩) d v x
theorem Dts.less {av av' : List Addr} {H : Hp} {v : List V} {d : List PyData} (x : Dts av H v d) (s : ∀ a ∈ av', a ∈ av) : Dts av' H v d :=
  Dts.map (fun b o e nb => ⟨e, fun q => nb (s b q)⟩) d v x
theorem Dts.len {av : List Addr} {H : Hp} : ∀ {vs : List V} {ds : List PyData}, Dts av H vs ds → vs.length = ds.length
  | _, _, .nil => rfl
  | _, _, .cons _ t => by rw [List.length_cons, List.length_cons, t.len]
theorem Dts.get {av : List Addr} {H : Hp} : ∀ {vs : List V} {ds : List PyData} (i : Nat) {d : PyData}, Dts av H vs ds → ds[i]? = some d → ∃ v, vs[i]? = some v ∧ Dt av H v d
  | _, _, _, _, .nil, e => by simp at e
  | _, _, 0, _, .cons h _, e => by simp at e; subst e; exact ⟨_, rfl, h⟩
  | _, _, i + 1, d, .cons _ t, e => by
    obtain ⟨u, h1, h2⟩ := Dts.get (i := i) (d := d) t (by simpa using e)
    exact ⟨u, by simpa using h1, h2⟩
theorem Dts.getv {av : List Addr} {H : Hp} : ∀ {vs : List V} {ds : List PyData} (i : Nat) {v : V}, Dts av H vs ds → vs[i]? = some v → ∃ d, ds[i]? = some d ∧ Dt av H v d
  | _, _, _, _, .nil, e => by simp at e
  | _, _, 0, _, .cons h _, e => by simp at e; subst e; exact ⟨_, rfl, h⟩
  | _, _, i + 1, d, .cons _ t, e => by
    obtain ⟨u, h1, h2⟩ := Dts.getv (i := i) (v := d) t (by simpa using e)
    exact ⟨u, by simpa using h1, h2⟩
theorem Dts.app {av : List Addr} {H : Hp} : ∀ {vs us : List V} {ds es : List PyData}, Dts av H vs ds → Dts av H us es → Dts av H (vs ++ us) (ds ++ es)
  | _, _, _, _, .nil, y => y
  | _, _, _, _, .cons h t, y => .cons h (Dts.app t y)
theorem Dts.mem {av : List Addr} {H : Hp} : ∀ {vs : List V} {ds : List PyData} {v : V}, Dts av H vs ds → v ∈ vs → ∃ d ∈ ds, Dt av H v d
  | _, _, _, .nil, e => by simp at e
  | _, _, v, .cons (d := d) h t, e => by
    rcases List.mem_cons.mp e with e | e
    · subst e; exact ⟨d, List.mem_cons_self, h⟩
    · obtain ⟨d', m, x⟩ := Dts.mem t e
      exact ⟨d', List.mem_cons_of_mem _ m, x⟩
theorem Dts.take {av : List Addr} {H : Hp} : ∀ {vs : List V} {ds : List PyData} (n : Nat), Dts av H vs ds → Dts av H (vs.take n) (ds.take n)
  | _, _, 0, _ => .nil
  | _, _, _ + 1, .nil => .nil
  | _, _, n + 1, .cons r t => .cons r (Dts.take n t)
theorem Dts.drop {av : List Addr} {H : Hp} : ∀ {vs : List V} {ds : List PyData} (n : Nat), Dts av H vs ds → Dts av H (vs.drop n) (ds.drop n)
  | _, _, 0, r => r
  | _, _, _ + 1, .nil => .nil
  | _, _, n + 1, .cons _ t => Dts.drop n t
theorem Dts.rev {av : List Addr} {H : Hp} : ∀ {vs : List V} {ds : List PyData}, Dts av H vs ds → Dts av H vs.reverse ds.reverse
  | _, _, .nil => .nil
  | _, _, .cons r t => by rw [List.reverse_cons, List.reverse_cons]; exact Dts.app t.rev (.cons r .nil)
theorem Dts.ints {av : List Addr} {H : Hp} : ∀ ns : List Int, Dts av H (ns.map V.int) (ns.map PyData.int)
  | [] => .nil
  | n :: ns => .cons (.int n) (Dts.ints ns)
end Rw

namespace Rw
open PySem PySem.Spec PyProof.Rows L2
/-! ### set(xs) of a list of hin, its order left open -/
abbrev set0 (w : World) : Obj := { cls := .type "set", dict := none, data := .set #[] 0 (.fresh 0 0 (!w.params.followText "set-order")) }
section
variable {P : Program} {w : World} {A : Around} {E : Value → Shared → Prop} {s : Shared}
theorem set_of_list {l : Addr} {its : Array Value} (ns : List Int) {Q : Value → Shared → Prop} (calm : A.handled = none) (hl : s.heap.IsList l its) (hin : IntsAre its.toList ns) (few : ns.length + 1 < scanBound)
    (h : ∀ (h' : Heap) (tk c : Nat), SetR w h' s.heap.objs.size (fun j => decide (j ∈ ns)) c → c ≤ ns.length → (∀ b o, s.heap.get? b = some o → h'.get? b = some o) → Q (.ref s.heap.objs.size) { s with heap := h', toks := tk }) :
    wpAny (model P w) A (call (.type "set") [.ref l]) Q E s := by
  have isz : its.size = ns.length := (Array.length_toList (xs := its)).symm.trans (IntsAre.length hin)
  obtain ⟨c, tl, m1⟩ := F.called_set.mro
  have m2 := F.called_set.made
  have m3 := F.called_set.sub
  refine wpAny_call (codeAny_of_tree (show wpAny _ _ (callAny (.type "set") _) _ _ _ from ?_))
  refine wpAny_pure ⟨Code.quiet_builtin _ (by decide +kernel), codeAny_builtin (F.entry_type_call) ?_⟩
  rw [Around.under_plain (weight_type_call_type "set" [Value.ref l] []) rfl]
  have m4 := F.called_set.notType
  have m5 := F.called_set.canCreate
  have m6 := F.typeCall_set_1 (Value.ref l)
  repeat any_goals (first | assumption | wp_step)
  refine codeAny_mono (code_set_led1 (Value.ref l) (E := E) (Q₁ := fun ob s1 => ob = .ref s.heap.objs.size ∧ s1 = { s with heap := s.heap.push (set0 w) }) ⟨rfl, rfl⟩) fun r s1 hr => ?_
  cases r with
  | error e => exact hr
  | ok fl =>
    cases fl with
    | ret ob =>
      obtain ⟨rfl, rfl⟩ := hr
      have at0 : (s.heap.push (set0 w)).get? s.heap.objs.size = some (set0 w) := Heap.get?_push_size _ rfl
      have ty : Shared.TypeIs { s with heap := s.heap.push (set0 w) } (.ref s.heap.objs.size) "set" := ⟨_, at0, rfl⟩
      have m7 := F.called_set.init.lookup
      have m8 := F.called_set.init.bind (Value.ref s.heap.objs.size)
      repeat any_goals (first | assumption | wp_step)
      refine codeAny_mono (codeAny_call_builtin (R := wants (fun r s2 => r = .none ∧ ∃ h' tk c, s2 = { s with heap := h', toks := tk } ∧ SetR w h' s.heap.objs.size (fun j => decide (j ∈ ns)) c ∧ c ≤ ns.length ∧ (∀ b o, s.heap.get? b = some o → h'.get? b = some o)) E)
        F.called_set.init.plain F.entry_set_init (check_set_init_1 ty ?_)) fun r2 s2 hr2 => ?_
      · obtain ⟨⟨oc, od, odata, osl⟩, e0, e1, nl, e2⟩ := hl
        simp only at e1 e2
        subst e1; subst e2
        have e3 : (s.heap.push (set0 w)).get? l = some { cls := .type "list", dict := od, data := .seq its nl, slots := osl } := Heap.get?_push_of_some _ e0
        have n1 := F.sub_list_set
        have n2 := F.sub_list_frozenset
        have n3 : (Value.type "list" == Value.type "dict") = false := by decide
        have hl1 : (s.heap.push (set0 w)).IsList l its := ⟨_, e3, rfl, nl, rfl⟩
        unfold Builtin.«set.__init__» noKeywords Builtin.Frozenset.updateFrom
        generalize gi : pyIter = PI
        wp_walk
        subst gi
        refine wpAny_pyIter_list hl1 (wpAny_bind (wpAny_runValue ?_))
        have lt0 : l < s.heap.objs.size := Heap.lt_size e0
        have calm3 : A.in1.in1.in1.handled = none := by simp [calm]
        have ne1 : l ≠ (s.heap.push (set0 w)).objs.size := by
          rw [Heap.size_push]; exact Nat.ne_of_lt (Nat.lt_succ_of_lt lt0)
        have ne2 : s.heap.objs.size ∉ [(s.heap.push (set0 w)).objs.size, l] := by
          rw [Heap.size_push]
          intro q
          simp only [List.mem_cons, List.not_mem_nil, or_false] at q
          exact q.elim (Nat.ne_of_lt (Nat.lt_succ_self _)) (Nat.ne_of_gt lt0)
        have val : ∀ (i : Nat) (v : Value), its[i]? = some v → ∃ k t, ns[i]? = some k ∧ v = .int k t := fun i v hv => by
          have hi : i < ns.length := by rw [← isz]; exact (Array.getElem?_eq_some_iff.mp hv).1
          obtain ⟨t, e⟩ := PyProof.Rows.IntsAre.int_at hin i v (by rw [Array.getElem?_toList]; exact hv)
          refine ⟨ns[i], t, List.getElem?_eq_getElem hi, e.trans ?_⟩
          rw [List.getD_eq_getElem?_getD, List.getElem?_eq_getElem hi]; rfl
        refine set_update_ints ((Walks.list calm3 _ l ne1 its).toS) s.heap.objs.size ne2 ns isz few val (its.size - 0) 0 _ (by omega) (Nat.zero_le _) ⟨⟨_, Heap.get?_push_size _ rfl, rfl, rfl⟩, (hl1.push _)⟩ ?start ?fin
        case start => exact ⟨0, Nat.le_refl 0, setR_new_at (Heap.get?_push_of_some _ at0)⟩
        case fin =>
          intro s3 c3 mv le3 R3
          obtain ⟨h3, g3, d3, t3, o3⟩ := s3
          obtain rfl : g3 = s.gens := mv.gens
          obtain rfl : d3 = s.drawn := mv.drawn
          obtain rfl : o3 = s.os := mv.os
          show wpAny _ _ _ _ _ _
          refine wpAny_pure (show wpAny _ _ (ret Value.none) _ _ _ from ?_)
          rw [isz] at le3
          refine wpAny_pure ⟨rfl, h3, t3, c3, rfl, R3, le3, fun b o e => ?_⟩
          have lb : b < s.heap.objs.size := Heap.lt_size e
          refine mv.heap b o (fun q => ?_) (Heap.get?_push_of_some _ (Heap.get?_push_of_some _ e))
          rw [Heap.size_push] at q
          simp only [List.mem_cons, List.not_mem_nil, or_false] at q
          exact q.elim (Nat.ne_of_lt lb) (Nat.ne_of_lt (Nat.lt_succ_of_lt lb))
      · cases r2 with
        | error e => exact hr2
        | ok f2 =>
          cases f2 with
          | ret r =>
            obtain ⟨rfl, h', tk, c3, rfl, R3, le3, k3⟩ := hr2
            repeat any_goals (first | assumption | wp_step)
            exact h _ _ _ R3 le3 k3
          | _ => exact hr2.elim
    | _ => exact hr.elim
end
section
variable {X : Cx}
def rSetL (K : PySem.W.Frag) (w : World) : List V → Hp → VK → Prop := fun xs H Q => ∃ (p : Addr) (ns : List Int), xs = [.ref p] ∧ SqL K H p (ns.map V.int) ∧ ns.length ≤ 1000 ∧
  ∀ (a : Addr) (c : Nat), H a = none → c ≤ ns.length → Q (.ref a) (upd H a (SetO w a (fun j => decide (j ∈ ns)) c))
theorem cr_setL (hc : X.calm = true) : CallR X (.type "set") (rSetL X.K X.w) := by
  intro pins s σ H xs us Q I r h
  obtain ⟨p, ns, rfl, hS, few, q⟩ := h
  rw [Vals.ref1 r]
  obtain ⟨its, rv, pl, hz⟩ := I.list hS
  refine set_of_list ns (I.ok.hd hc) pl.isList (by simpa using intsAre_of rv) (by unfold scanBound; omega) fun h' tk c R le k => ?_
  exact ⟨.ref _, _, I.laid (t' := tk) k (Nat.le_refl _) (setO_new R), rfl, q _ c (I.hok.fresh (Nat.le_refl _)) le⟩
end
end Rw

namespace Rw
open PySem PySem.Spec PyProof.Rows L2
/-! ### the law's own def, called where nothing is being shown (callerA), over a base that is known -/
def AtTop (P : Program) (w : World) (K : PySem.W.Frag) (mg : Str → Option Value) (base : Heap) (f : Addr) (fd : FuncData) (x : Str) (sp : Sp) : Prop :=
  ∀ (s : Shared) (H : Hp) (u : Value) (v : V) (Q : VK), Env0 P w K mg base callerA [] s H → BindsTo s fd ⟨[u], []⟩ [(x, u)] → RelV v u → sp [v] H Q E0 →
    codeAny (model P w) callerA (.call (.ref f) ⟨[u], []⟩) (CR CX0 [] P w H s Q E0) s
section
variable {P : Program} {w : World} {K : PySem.W.Frag} {mg : Str → Option Value} {base : Heap}
theorem atTop_of {f : Addr} {x q y : Str} {st : Stmt} {fd : FuncData} {N : List Str} {k : Nat} {sp : Sp} (F : Fun K x q st f fd) (S : FnScope N [y] (defScope st)) (room : Room (k + 1) callerA)
    (body : ∀ (cdv : Value) (s : Shared) (H : Hp) (v : V) (Q : VK), Room k (callerA.deeper (envOfC q (defScope st) s.heap.objs.size f cdv)) → sp [v] H Q E0 →
      ∃ t, PSs (cxOf CX0 P w K mg base N q (defScope st) f cdv callerA [] s H E0) (defBody st) t ∧ t { nx := fun _ H' => Q .non H', rt := Q } (start N [v]) H) : AtTop P w K mg base f fd y sp := by
  obtain ⟨oc, od, kV, doc, pm, an, cdv, ct, osl, rfl, lk, hcd⟩ := F.ex
  intro s H u v Q e0 hb r hsp
  have KX : K.In s.heap := e0.mod.kin.keeps (fun b o e => (e0.bs b o e).1)
  have lim : s.heap.NoLimit := e0.mod.nolimit.keeps (fun b o e => (e0.bs b o e).1)
  have kinds : ∀ z ∈ [y].zip [u], (defScope st).names.lookup z.1 = some .local ∨ ((defScope st).names.lookup z.1 = some .cell ∧ ((cellsFrom (s.heap.objs.size + 1) (defScope st).names []).lookup z.1).isSome = true) := fun ⟨n, v⟩ hz => by
    rcases S.par n (List.of_mem_zip hz).1 with g | g
    · exact Or.inl g
    · exact Or.inr ⟨g, PySem.W.cellsFrom_some _ _ _ (.inl g)⟩
  refine codeAny_call_function room.depth (KX _ _ lk) rfl S.co S.gen rfl (PySem.W.codeRec_of KX hcd) (hb _ _ _ _ (wpAny_newFunctionEnv_cells S.kind kinds fun env he s1 ic => ?_))
  subst he
  refine ⟨lim.keeps ic.toInCall.keep, codeAny_func ?_⟩
  obtain ⟨t, ht, hq⟩ := body cdv s H v Q (room.deeper _) hsp
  have I : Inv (cxOf CX0 P w K mg base N q (defScope st) f cdv callerA [] s H E0) [] (start N [v]) H s1 := inv_start S room.hd e0 rfl (.cons r .nil) ic
  refine wpAny_mono (ht.run [] s1 (start N [v]) H _ I hq) (fun fl s2 hs => ?_) fun e s2 hs => hs
  cases fl with
  | ret u2 =>
    obtain ⟨v2, σ2, H2, J, rv, z⟩ := hs
    exact ⟨v2, H2, J.os, J.bare, J.base, J.hok, rv, z⟩
  | next =>
    obtain ⟨σ2, H2, J, z⟩ := hs
    exact ⟨V.non, H2, J.os, J.bare, J.base, J.hok, rfl, z⟩
  | brk =>
    obtain ⟨_, _, _, z⟩ := hs
    exact False.elim z
  | cont =>
    obtain ⟨_, _, _, z⟩ := hs
    exact False.elim z
theorem law_at {mb : Str → Option Value} {fa a : Addr} {fd : FuncData} {x : Str} {sp : Sp} {s1 : Shared} {vs : List Value} {ns : List Int}
    (KX : K.In s1.heap) (hns : s1.heap.Ns mainGlobals mg) (hb : s1.heap.Ns builtinsNs mb) (hbb : ∀ x : Str, x ≠ "__name__" → mb x = bootBuiltins x) (lim : s1.heap.NoLimit) (hg : s1.gens = #[])
    (ha : s1.heap.get? a = some { cls := .type "list", data := .seq vs.toArray }) (hi : IntsAre vs ns) (hl : ns.length ≤ sizeLine)
    (F : ∀ base : Heap, K.In base → base.Ns mainGlobals mg → AtTop P w K mg base fa fd x sp) (hbind : ∀ (s : Shared) (u : Value), BindsTo s fd ⟨[u], []⟩ [(x, u)])
    (hsp : ∀ H : Hp, Only H → SqL K H a (ns.map V.int) → sp [.ref a] H (fun v _ => v = .bl true) E0) :
    codeAny (model P w) callerA (.call (.ref fa) ⟨[.ref a], []⟩) (fun r s' => r = .ok (.ret (.bool true)) ∧ OldK s1.heap s'.heap ∧ s'.os = s1.os ∧ AllBare s'.gens) s1 := by
  have core : ∀ H : Hp, Only H → SqL K H a (ns.map V.int) → HOk P w H s1.heap → (∀ b, H b ≠ none → b = a) → (H a ≠ none → K.lookup a = none) →
      codeAny (model P w) callerA (.call (.ref fa) ⟨[.ref a], []⟩) (fun r s' => r = .ok (.ret (.bool true)) ∧ OldK s1.heap s'.heap ∧ s'.os = s1.os ∧ AllBare s'.gens) s1 := by
    intro H hO hS hok hA hK
    have hid : ∀ {b : Addr} {o : Obj}, s1.heap.get? b = some o → H b = none → (hidT s1.heap H).get? b = some o := fun e n => hidT_get e n
    have only : ∀ {b : Addr} {u : HO}, H b = some u → b = a := fun {b u} z => hA b (by rw [z]; exact Option.some_ne_none _)
    have dict_no : ∀ {b : Addr} {o : Obj} {es : Array DictEntry} {ep : Nat}, s1.heap.get? b = some o → o.data = .dict es ep → H b = none := fun {b o es ep} e d => by
      cases z : H b with
      | none => rfl
      | some u =>
        have e' := only z
        subst e'
        rw [ha] at e; cases e
        exact nomatch (show Data.seq vs.toArray _ = Data.dict es ep from d)
    have ns_of : ∀ {b : Addr} {m : Str → Option Value}, s1.heap.Ns b m → (hidT s1.heap H).Ns b m := fun {b m} ⟨o, es, ep, e, d, r⟩ => ⟨o, es, ep, hid e (dict_no e d), d, r⟩
    have kb : K.In (hidT s1.heap H) := fun b o e => hid (KX b o e) (by
      cases z : H b with
      | none => rfl
      | some u =>
        have e' := only z
        subst e'
        rw [hK (by rw [z]; exact Option.some_ne_none _)] at e; cases e)
    have md : Mod K mg (hidT s1.heap H) := ⟨kb, ns_of hns, ⟨mb, ns_of hb, hbb⟩, let ⟨mc, h1, h2⟩ := lim; ⟨mc, ns_of h1, h2⟩⟩
    have e0 : Env0 P w K mg (hidT s1.heap H) callerA [] s1 H := ⟨rfl, md, fun b o e => of_hidT e, Nat.le_of_eq (hidT_size _ _), trivial, fun b z => absurd (show b ∈ ([] : List Addr) from z) List.not_mem_nil, hok, .of_eq hg⟩
    refine codeAny_mono (F _ kb (ns_of hns) s1 H (.ref a) (.ref a) _ e0 (hbind s1 (.ref a)) rfl (hsp H hO hS)) fun r s2 h => ?_
    cases r with
    | error e => exact False.elim h
    | ok fl =>
      cases fl with
      | next => exact False.elim h
      | brk => exact False.elim h
      | cont => exact False.elim h
      | ret u =>
        obtain ⟨v, H2, os, bare, un, hok2, r2, z⟩ := h
        obtain rfl : v = .bl true := z
        obtain rfl : u = Value.bool true := r2
        refine ⟨rfl, OldK.of_keep (fun b o e => ?_), os, bare⟩
        rcases hO b with z | ⟨ob, xs, z⟩
        · exact un.keep b o e z (fun y => absurd (show b ∈ ([] : List Addr) from y) List.not_mem_nil) List.not_mem_nil
        · obtain ⟨e1, _⟩ := hok b _ z
          obtain ⟨e2, _⟩ := hok2 b _ (un.frzs b ob _ z)
          rw [e] at e1; cases e1
          exact e2
  have rv := vals_ints hi
  have ln := hi.length
  cases hk : K.lookup a with
  | some o =>
    have e := KX a o hk
    rw [ha] at e
    cases e
    exact core (fun _ => none) (fun _ => .inl rfl) (.inr ⟨_, vs.toArray, _, hk, rfl, rfl, rfl, by rw [List.size_toArray, ln]; exact hl, by simpa using rv⟩) (fun b u z => nomatch (show (none : Option HO) = some u from z)) (fun b z => absurd rfl z) (fun z => absurd rfl z)
  | none =>
    refine core (upd (fun _ => none) a (.frz { cls := .type "list", data := .seq vs.toArray } (.lst (ns.map V.int)))) (fun b => ?_) (.inl (.inr ⟨{ cls := .type "list", data := .seq vs.toArray }, upd_same⟩)) (fun b u z => ?_) (fun b z => ?_) (fun _ => hk)
    · by_cases e : b = a
      · rw [e]; exact .inr ⟨_, _, upd_same⟩
      · exact .inl (upd_ne e)
    · by_cases e : b = a
      · subst e
        rw [upd_same] at z
        cases z
        exact ⟨ha, by rw [List.length_map]; exact hl, vs, _, rv, ha⟩
      · rw [upd_ne e] at z
        cases z
    · by_cases e : b = a
      · exact e
      · exact absurd (upd_ne e) z
end
/-! what k_head leaves, from the law's promise -/
theorem walk_top {l : PySem.W.OpenLaw} {n : Nat} {q : Program} {loose : List Str} {XP : (Str → Option Value) → Heap → Prop} {YP : World → Heap → Prop} {d : DefRec} {K : Params → PySem.W.Frag} {sp : World → Sp} {x : Str}
    (hn : l.most = some n) (hn2 : n ≤ sizeLine) (hdf : d.params.defaults = []) (hY : ∀ (w : World) (h : Heap), YP w h → (K w.params).In h)
    (F : ∀ (w : World) (mg : Str → Option Value) (fa : Addr) (h : Heap), (K w.params).In h → h.Ns mainGlobals mg → mg d.name = some (.ref fa) →
      ∃ fd : FuncData, (∀ (s : Shared) (u : Value), BindsTo s fd ⟨[u], []⟩ [(x, u)]) ∧ ∀ base : Heap, (K w.params).In base → base.Ns mainGlobals mg → AtTop l.prog w (K w.params) mg base fa fd x (sp w))
    (hsp : ∀ (w : World) (H : Hp) (a : Addr) (ns : List Int), ns.length ≤ n → Only H → SqL (K w.params) H a (ns.map V.int) → sp w [.ref a] H (fun v _ => v = .bl true) E0) :
    PySem.W.WalkO q loose XP YP l.row.toRowW d [] (fun f vs => PySem.call f vs) := by
  refine Att.attach_call hn hdf (fun w s0 s1 mg mb fa o pm cd doc a vs ns G Y ho hd hcd hmg hobj hin hlen hg => ?_)
  have KX := hY w _ Y
  obtain ⟨fd, hb, hF⟩ := F w mg fa _ KX G.T.g hmg
  exact law_at KX G.T.g G.T.b G.T.builtins G.T.nolimit hg hobj hin (Nat.le_trans hlen hn2) hF hb (fun H hO hS => hsp w H a ns hlen hO hS)
end Rw

namespace Rw
open PySem PySem.Spec PyProof.Rows L2
/-! ### the text -/
def topS (i : Nat) : Stmt := PySem.Challenge.pw_ropewarren_k86_house_texts.main.body.getD i (.Pass ⟨0, 0, 0, 0⟩)
/-! ### what stands at the top: a def that keeps a promise, built-ins that are still theirs -/
def Can (P : Program) (w : World) (K : PySem.W.Frag) (mg : Str → Option Value) (base : Heap) (x : Str) (ps : List Str) (k : Nat) (sp : Sp) : Prop :=
  ∃ f fd, FnOk P w K mg base CX0 k f fd ps sp ∧ mg x = some (.ref f) ∧ PySem.W.keepIn K (.ref f) = true ∧ Binds K fd ps []
def Has (K : PySem.W.Frag) (mg : Str → Option Value) (x : Str) (st : Stmt) : Prop := ∃ f fd, Fun K x x st f fd ∧ mg x = some (.ref f)
structure Blt (mg : Str → Option Value) : Prop where
  isi : mg "isinstance" = none
  int_ : mg "int" = none
  bool_ : mg "bool" = none
  tuple_ : mg "tuple" = none
  list_ : mg "list" = none
  len_ : mg "len" = none
  abs_ : mg "abs" = none
  sorted_ : mg "sorted" = none
  set_ : mg "set" = none
  range_ : mg "range" = none
  min_ : mg "min" = none
  str_ : mg "str" = none
  reversed_ : mg "reversed" = none
  repr_ : mg "repr" = none
  enum_ : mg "enumerate" = none
  max_ : mg "max" = none
  sum_ : mg "sum" = none
  all_ : mg "all" = none
  any_ : mg "any" = none
theorem pe_can {X : Cx} {x : Str} {ps : List Str} {k : Nat} {sp : Sp} {e : Expr} {es : List Expr} {t : TA} {p pos : Pos} (C : Can X.prog X.w X.K X.mg X.base x ps k sp) (hr : Room k X.A) (hg : Gl X x)
    (ha : PA X (e :: es) t) (hdb : (x == ("__debug__" : Str)) = false := by decide) (he : starEach (e :: es) X.env = (false, eval e X.env) :: starEach es X.env := by rfl) (hpl : (backTo pos (starEach es X.env)).any (·.1) = false := by rfl) :
    PE X (.Call (.Name x p) (e :: es) [] pos) (tCall sp [] E0 t) := by
  obtain ⟨f, fd, F, gm, kp, b⟩ := C
  exact pe_call F hr hg gm kp b .nil pass0 ha hdb he hpl
/-! ### isinstance of data -/
def tn : PyData → String
  | .none => "NoneType"
  | .bool _ => "bool"
  | .int _ => "int"
  | .str _ => "str"
  | .list _ => "list"
  | .tuple _ => "tuple"
  | .dict _ => "dict"
theorem Dt.ty {K : PySem.W.Frag} {av : List Addr} {H : Hp} {v : V} {d : PyData} (x : Dt av H v d) : TyX K H v (.type (tn d)) := by
  cases x with
  | non => exact .base .non
  | bl b => exact .base (.bl b)
  | int i => exact .base (.int i)
  | str y => exact .base (.str y)
  | lst _ e _ => exact .base (.lst e)
  | tup _ e _ => exact .base (.tup e)
  | dct _ e => exact .base (.dK e)
def aInt : PyData → Bool
  | .int _ => true
  | .bool _ => true
  | _ => false
def aBool : PyData → Bool
  | .bool _ => true
  | _ => false
def aTup : PyData → Bool
  | .tuple _ => true
  | _ => false
theorem kit_int (d : PyData) : kitB (tn d) "int" = some (aInt d) := by
  cases d <;> first | exact (show kitB "NoneType" "int" = some false by decide +kernel) | exact (show kitB "bool" "int" = some true by decide +kernel) | exact (show kitB "int" "int" = some true by decide +kernel) | exact (show kitB "str" "int" = some false by decide +kernel) | exact (show kitB "list" "int" = some false by decide +kernel) | exact (show kitB "tuple" "int" = some false by decide +kernel) | exact (show kitB "dict" "int" = some false by decide +kernel)
theorem kit_bool (d : PyData) : kitB (tn d) "bool" = some (aBool d) := by
  cases d <;> first | exact (show kitB "NoneType" "bool" = some false by decide +kernel) | exact (show kitB "bool" "bool" = some true by decide +kernel) | exact (show kitB "int" "bool" = some false by decide +kernel) | exact (show kitB "str" "bool" = some false by decide +kernel) | exact (show kitB "list" "bool" = some false by decide +kernel) | exact (show kitB "tuple" "bool" = some false by decide +kernel) | exact (show kitB "dict" "bool" = some false by decide +kernel)
theorem kit_tup (d : PyData) : kitB (tn d) "tuple" = some (aTup d) := by
  cases d <;> first | exact (show kitB "NoneType" "tuple" = some false by decide +kernel) | exact (show kitB "bool" "tuple" = some false by decide +kernel) | exact (show kitB "int" "tuple" = some false by decide +kernel) | exact (show kitB "str" "tuple" = some false by decide +kernel) | exact (show kitB "list" "tuple" = some false by decide +kernel) | exact (show kitB "tuple" "tuple" = some true by decide +kernel) | exact (show kitB "dict" "tuple" = some false by decide +kernel)
def rIs (T : String) (f : PyData → Bool) : List V → Hp → VK → Prop := fun xs H Q => ∃ v d av, xs = [v, .ty T] ∧ Dt av H v d ∧ Q (.bl (f d)) H
theorem call_isD {X : Cx} {T : String} {f : PyData → Bool} (hf : ∀ d, kitB (tn d) T = some (f d)) : CallR X (.builtin "isinstance") (rIs T f) := by
  intro pins s σ H xs us Q I r h
  obtain ⟨v, d, av, e, hd, q⟩ := h
  exact call_isi pins s σ H xs us Q I r ⟨v, .ty T, .type (tn d), .type T, f d, e, .ty T, hd.ty, kit_ty (hf d), q⟩
end Rw

namespace Rw
open PySem PySem.Spec PyProof.Rows L2
/-! ### the program's own defs -/
section
variable {P : Program} {w : World} {K : PySem.W.Frag} {mg : Str → Option Value} {base : Heap}
abbrev sWhole : Stmt := topS 9
abbrev sWithin : Stmt := topS 10
abbrev sTupOf : Stmt := topS 12
def whole : PyData → Bool
  | .int _ => true
  | _ => false
def within (d : PyData) (lo hi : Int) : Bool := match d with
  | .int i => decide (lo ≤ i) && decide (i ≤ hi)
  | _ => false
def tupOf (d : PyData) (n : Int) : Bool := match d with
  | .tuple ds => decide ((ds.length : Int) = n)
  | _ => false
theorem scWhole : FnScope ["thing"] ["thing"] (defScope sWhole) := ⟨rfl, rfl, rfl, by decide +kernel, rfl, by decide +kernel, by decide +kernel⟩
theorem scWithin : FnScope ["thing", "low", "high"] ["thing", "low", "high"] (defScope sWithin) := ⟨rfl, rfl, rfl, by decide +kernel, rfl, by decide +kernel, by decide +kernel⟩
theorem scTupOf : FnScope ["thing", "many"] ["thing", "many"] (defScope sTupOf) := ⟨rfl, rfl, rfl, by decide +kernel, rfl, by decide +kernel, by decide +kernel⟩
def spWhole : Sp := fun vs H Q _ => ∃ (v : V) (d : PyData) (av : List Addr), vs = [v] ∧ Dt av H v d ∧ Q (.bl (whole d)) H
theorem ok_whole (h : Has K mg "is_whole" sWhole) (B : Blt mg) : Can P w K mg base "is_whole" ["thing"] 1 spWhole := by
  obtain ⟨f, fd, F, g⟩ := h
  refine ⟨f, fd, F.ok (k := 0) scWhole (fun vs H Q E h => ?_) (fun cdv A outer s H vs Q E hr h => ?_), g, F.kp, F.binds fun _ _ _ _ _ _ us hl => match us, hl with | [_], _ => rfl⟩
  · obtain ⟨v, d, av, rfl, _⟩ := h
    rfl
  · obtain ⟨v, d, av, rfl, hd, q⟩ := h
    refine ⟨_, pss_one (ps_ret (pe_and (pe_callB (call_isD kit_int) (by rfl) B.isi boot_isinstance (pa_cons (pv 0) (pa_cons (pe_bltn (v := .ty "int") (by rfl) B.int_ boot_int rfl) pa_nil)))
      (pe_one (pe_not (pe_callB (call_isD kit_bool) (by rfl) B.isi boot_isinstance (pa_cons (pv 0) (pa_cons (pe_bltn (v := .ty "bool") (by rfl) B.bool_ boot_bool rfl) pa_nil))))))), ?_⟩
    refine ⟨v, rfl, v, d, av, rfl, hd, _, rfl, ite2 (fun e => ?_) (fun e => ?_)⟩
    · refine ⟨v, rfl, v, d, av, rfl, hd, _, rfl, ?_⟩
      have z : (!aBool d) = whole d := by cases d <;> first | rfl | cases e
      rw [z]; exact q
    · have z : false = whole d := by cases d <;> first | rfl | exact absurd rfl e
      rw [z]; exact q
def spWithin : Sp := fun vs H Q _ => ∃ (v : V) (d : PyData) (av : List Addr) (lo hi : Int), vs = [v, .int lo, .int hi] ∧ Dt av H v d ∧ Q (.bl (within d lo hi)) H
theorem ok_within (h : Has K mg "is_within" sWithin) (C : Can P w K mg base "is_whole" ["thing"] 1 spWhole) : Can P w K mg base "is_within" ["thing", "low", "high"] 2 spWithin := by
  obtain ⟨f, fd, F, g⟩ := h
  refine ⟨f, fd, F.ok (k := 1) scWithin (fun vs H Q E h => ?_) (fun cdv A outer s H vs Q E hr h => ?_), g, F.kp, F.binds fun _ _ _ _ _ _ us hl => match us, hl with | [_, _, _], _ => rfl⟩
  · obtain ⟨v, d, av, lo, hi, rfl, _⟩ := h
    rfl
  · obtain ⟨v, d, av, lo, hi, rfl, hd, q⟩ := h
    refine ⟨_, pss_one (ps_ret (pe_and (pe_can C hr (by rfl) (pa_cons (pv 0) pa_nil)) (pe_one (pe_chain op_le op_le (pv 1) (pv 0) (pv 2))))), ?_⟩
    refine ⟨v, rfl, v, d, av, rfl, hd, _, rfl, ite2 (fun e => ?_) (fun e => ?_)⟩
    · cases hd <;> first | (cases e; done) | skip
      rename_i i
      refine ⟨.int lo, rfl, .int i, rfl, lo, i, rfl, rfl, _, rfl, ite2 (fun e1 => ?_) (fun e1 => ?_)⟩
      · refine ⟨.int hi, rfl, i, hi, rfl, rfl, ?_⟩
        have z : decide (i ≤ hi) = within (.int i) lo hi := by
          show _ = (decide (lo ≤ i) && decide (i ≤ hi))
          rw [e1, Bool.true_and]
        rw [← z] at q; exact q
      · have z : false = within (.int i) lo hi := by
          show _ = (decide (lo ≤ i) && decide (i ≤ hi))
          rw [show decide (lo ≤ i) = false from Bool.eq_false_iff.mpr e1, Bool.false_and]
        rw [z]; exact q
    · have z : false = within d lo hi := by cases d <;> first | rfl | exact absurd rfl e
      rw [z]; exact q
def spTupOf : Sp := fun vs H Q _ => ∃ (v : V) (d : PyData) (av : List Addr) (n : Int), vs = [v, .int n] ∧ Dt av H v d ∧ Q (.bl (tupOf d n)) H
theorem ok_tupOf (h : Has K mg "is_tuple_of" sTupOf) (B : Blt mg) : Can P w K mg base "is_tuple_of" ["thing", "many"] 1 spTupOf := by
  obtain ⟨f, fd, F, g⟩ := h
  refine ⟨f, fd, F.ok (k := 0) scTupOf (fun vs H Q E h => ?_) (fun cdv A outer s H vs Q E hr h => ?_), g, F.kp, F.binds fun _ _ _ _ _ _ us hl => match us, hl with | [_, _], _ => rfl⟩
  · obtain ⟨v, d, av, n, rfl, _⟩ := h
    rfl
  · obtain ⟨v, d, av, n, rfl, hd, q⟩ := h
    refine ⟨_, pss_one (ps_ret (pe_and (pe_callB (call_isD kit_tup) (by rfl) B.isi boot_isinstance (pa_cons (pv 0) (pa_cons (pe_bltn (v := .ty "tuple") (by rfl) B.tuple_ boot_tuple rfl) pa_nil)))
      (pe_one (pe_cmpR op_eq (pe_callB call_len_seq (by rfl) B.len_ PySem.boot_len (pa_cons (pv 0) pa_nil)) (pv 1) (nomark _))))), ?_⟩
    refine ⟨v, rfl, v, d, av, rfl, hd, _, rfl, ite2 (fun e => ?_) (fun e => ?_)⟩
    · cases hd <;> first | (cases e; done) | skip
      rename_i a xs ds na ea hs
      refine ⟨.ref a, rfl, a, xs, rfl, .inr (SqT.of ea), .int n, rfl, rfl, ?_⟩
      have z : decide (V.int (xs.length : Int) = V.int n) = tupOf (.tuple ds) n := by
        show _ = decide ((ds.length : Int) = n)
        rw [hs.len]
        exact decide_eq_decide.mpr ⟨fun y => V.int.inj y, fun y => by rw [y]⟩
      rw [z]; exact q
    · have z : false = tupOf d n := by cases d <;> first | rfl | exact absurd rfl e
      rw [z]; exact q
end
end Rw

namespace Rw
open PySem PySem.Spec PyProof.Rows L2
/-! ### places of a house, by data -/
def lenOf : PyData → Int
  | .tuple (_ :: _ :: .int l :: _) => l
  | _ => 0
def PipesOk (ps : List PyData) : Prop := ∀ p ∈ ps, ∃ a b l r, p = .tuple (a :: b :: .int l :: r)
def houseD (n : Int) (ps : List PyData) : PyData := .tuple [.int n, .tuple ps]
end Rw

namespace Rw
open PySem PySem.Spec PyProof.Rows L2
theorem Keep.upd {av : List Addr} {H H1 : Hp} {p : Addr} {o : HO} (n : H p = none) (k : Keep av H H1) : Keep av H (upd H1 p o) := fun b z e nb => by
  rw [upd_ne (ne_of_none e n)]; exact k b z e nb
theorem Keep.set {av : List Addr} {H H1 : Hp} {p : Addr} {o : HO} (n : p ∈ av) (k : Keep av H H1) : Keep av H (L2.upd H1 p o) := k.trans (Keep.put n)
theorem Keep.same {H H1 : Hp} (k : Keep [] H H1) : Same H H1 := fun b o e => k b o e List.not_mem_nil
theorem Keep.of {av : List Addr} {H H1 : Hp} (k : Keep [] H H1) : Keep av H H1 := k.mono fun _ m => nomatch m
theorem cut_to (xs : List V) (k : Nat) : cutV xs none (some (k : Int)) = xs.take k := by
  unfold cutV
  rw [HT.sIx_none, HT.sIx_nat, List.drop_zero, Nat.sub_zero]
  by_cases h : k ≤ xs.length
  · rw [Nat.min_eq_left h]
  · rw [Nat.min_eq_right (by omega), List.take_of_length_le (Nat.le_refl _), List.take_of_length_le (by omega)]
theorem cut_from (xs : List V) (k : Nat) : cutV xs (some (k : Int)) none = xs.drop k := by
  unfold cutV
  rw [HT.sIx_none, HT.sIx_nat]
  by_cases h : k ≤ xs.length
  · rw [Nat.min_eq_left h, List.take_of_length_le (by rw [List.length_drop]; exact Nat.le_refl _)]
  · rw [Nat.min_eq_right (by omega), List.drop_of_length_le (Nat.le_refl _), List.drop_of_length_le (show xs.length ≤ k by omega), List.take_nil]
/-! ### the deck: its cells, its rests, its count (at most b) -/
structure Deck (H : Hp) (D C R : Addr) (b : Int) : Prop where
  ex : ∃ (ns rs : List Int) (c : Int), H D = some (.lst [.ref C, .ref R, .int c]) ∧ H C = some (.lst (ns.map V.int)) ∧ H R = some (.lst (rs.map V.int)) ∧
    rs.length = ns.length ∧ 0 < ns.length ∧ ns.length ≤ 100 ∧ (∀ n ∈ ns, 0 ≤ n) ∧ (∀ r ∈ rs, 0 ≤ r) ∧ 0 ≤ c ∧ c ≤ b
  cr : C ≠ R
  dc : D ≠ C
  dr : D ≠ R
theorem Deck.mono {H : Hp} {D C R : Addr} {b b' : Int} (x : Deck H D C R b) (h : b ≤ b') : Deck H D C R b' := by
  obtain ⟨⟨ns, rs, c, e1, e2, e3, e4, e5, e6, e7, e8, e9, e10⟩, n1, n2, n3⟩ := x
  exact ⟨⟨ns, rs, c, e1, e2, e3, e4, e5, e6, e7, e8, e9, by omega⟩, n1, n2, n3⟩
theorem Deck.keep {H H' : Hp} {D C R : Addr} {b : Int} (x : Deck H D C R b) (k : Keep [] H H') : Deck H' D C R b := by
  obtain ⟨⟨ns, rs, c, e1, e2, e3, r⟩, n1, n2, n3⟩ := x
  exact ⟨⟨ns, rs, c, k _ _ e1 List.not_mem_nil, k _ _ e2 List.not_mem_nil, k _ _ e3 List.not_mem_nil, r⟩, n1, n2, n3⟩
/-! a store elsewhere leaves the deck -/
theorem Deck.other {H : Hp} {D C R p : Addr} {b : Int} {o : HO} (x : Deck H D C R b) (h1 : p ≠ D) (h2 : p ≠ C) (h3 : p ≠ R) : Deck (upd H p o) D C R b := by
  obtain ⟨⟨ns, rs, c, e1, e2, e3, r⟩, n1, n2, n3⟩ := x
  exact ⟨⟨ns, rs, c, by rw [upd_ne h1.symm]; exact e1, by rw [upd_ne h2.symm]; exact e2, by rw [upd_ne h3.symm]; exact e3, r⟩, n1, n2, n3⟩
theorem Deck.ne {H : Hp} {D C R p : Addr} {b : Int} (x : Deck H D C R b) (n : H p = none) : p ≠ D ∧ p ≠ C ∧ p ≠ R := by
  obtain ⟨⟨ns, rs, c, e1, e2, e3, r⟩, _⟩ := x
  exact ⟨(ne_of_none e1 n).symm, (ne_of_none e2 n).symm, (ne_of_none e3 n).symm⟩
theorem Deck.new {H : Hp} {D C R p : Addr} {b : Int} {o : HO} (x : Deck H D C R b) (n : H p = none) : Deck (upd H p o) D C R b :=
  x.other (x.ne n).1 (x.ne n).2.1 (x.ne n).2.2
end Rw

namespace Rw
open PySem PySem.Spec PyProof.Rows L2
theorem ixN_at {n : Nat} {i : Int} (h0 : 0 ≤ i) (h : i < n) : ixN n i = some i.toNat := by
  unfold ixN
  rw [if_pos h0]
  first | rw [if_pos (show i.toNat < n by omega)] | (rw [if_pos (show i < n by omega)])
theorem set_map (rs : List Int) (j : Nat) (x : Int) : (rs.map V.int).set j (.int x) = (rs.set j x).map V.int := by rw [List.map_set]
end Rw

namespace Rw
open PySem PySem.Spec PyProof.Rows L2
theorem atI_of {α : Type} {xs : List α} {i : Int} {v : α} (h0 : 0 ≤ i) (h : xs[i.toNat]? = some v) : atI xs i = some v := by
  have hl := (List.getElem?_eq_some_iff.mp h).1
  unfold atI
  rw [ixN_at h0 (by omega)]
  exact h
theorem Deck.at {H : Hp} {D C R : Addr} {b : Int} (x : Deck H D C R b) : (∃ o, H D = some o) ∧ (∃ o, H C = some o) ∧ ∃ o, H R = some o := by
  obtain ⟨⟨ns, rs, c, e1, e2, e3, r⟩, _⟩ := x
  exact ⟨⟨_, e1⟩, ⟨_, e2⟩, ⟨_, e3⟩⟩
theorem Keep.free {H H' : Hp} {D C R p : Addr} {b : Int} (k : Keep [D, R] H H') (x : Deck H' D C R b) (n : H' p = none) : H p = none := by
  cases hq : H p with
  | none => rfl
  | some o =>
    have nd : p ∉ [D, R] := fun m => by
      obtain ⟨n1, n2, n3⟩ := x.ne n
      rcases List.mem_cons.mp m with m | m
      · exact n1 m
      · exact n3 (List.mem_singleton.mp m)
    rw [k p o hq nd] at n; cases n
theorem notDR {D R p : Addr} (h1 : p ≠ D) (h2 : p ≠ R) : p ∉ [D, R] := fun m => by
  rcases List.mem_cons.mp m with m | m
  · exact h1 m
  · exact h2 (List.mem_singleton.mp m)
end Rw

namespace Rw
open PySem PySem.Spec PyProof.Rows L2
/-! addresses that are tracked -/
def Tr (av : List Addr) (H : Hp) : Prop := ∀ a ∈ av, ∃ o, H a = some o
theorem Tr.not {av : List Addr} {H : Hp} {p : Addr} (t : Tr av H) (n : H p = none) : p ∉ av := fun m => by
  obtain ⟨o, e⟩ := t p m
  rw [n] at e; cases e
theorem Tr.upd {av : List Addr} {H : Hp} {p : Addr} {o : HO} (t : Tr av H) : Tr av (upd H p o) := fun a m => by
  by_cases e : a = p
  · subst e; exact ⟨o, upd_same⟩
  · obtain ⟨u, z⟩ := t a m
    exact ⟨u, by rw [upd_ne e]; exact z⟩
theorem Tr.cons {av : List Addr} {H : Hp} {p : Addr} {o : HO} (t : Tr av H) (e : H p = some o) : Tr (p :: av) H := fun a m => by
  rcases List.mem_cons.mp m with m | m
  · rw [m]; exact ⟨o, e⟩
  · exact t a m
theorem Tr.keep {av : List Addr} {H H' : Hp} {D C R : Addr} {b : Int} (t : Tr av H) (k : Keep [D, R] H H') (d : Deck H' D C R b) : Tr av H' := fun a m => by
  cases e : H' a with
  | some o => exact ⟨o, rfl⟩
  | none =>
    obtain ⟨o, z⟩ := t a m
    rw [k.free d e] at z; cases z
theorem ix_listK {X : Cx} {K : PySem.W.Frag} (h : X.K = K) : IxR X (rIxL K) := by subst h; exact ix_list
theorem pick4 (a b c d : Int) (n : Nat) (h : n < 4) : ∃ j, [V.int a, V.int b, V.int c, V.int d][n]? = some (.int j) ∧ (j = a ∨ j = b ∨ j = c ∨ j = d) := by
  match n, h with
  | 0, _ => exact ⟨a, rfl, .inl rfl⟩
  | 1, _ => exact ⟨b, rfl, .inr (.inl rfl)⟩
  | 2, _ => exact ⟨c, rfl, .inr (.inr (.inl rfl))⟩
  | 3, _ => exact ⟨d, rfl, .inr (.inr (.inr rfl))⟩
/-! ### a pipe, by data -/
def prD (p : Int × Int) : PyData := .tuple [.int p.1, .int p.2]
def pipeD (x y l : Int) (na fl : List (Int × Int)) : PyData := .tuple [.int x, .int y, .int l, .tuple (na.map prD), .tuple (fl.map prD)]
structure Fit (l : Int) (na fl : List (Int × Int)) : Prop where
  l1 : 1 ≤ l
  l2 : l ≤ 1000000000000
  nup : (na.map (·.1)).Pairwise (· < ·)
  nin : ∀ p ∈ na, 1 ≤ p.1 ∧ p.1 ≤ l - 1 ∧ 1 ≤ p.2 ∧ p.2 ≤ 1000000
  fup : (fl.map (·.1)).Pairwise (· < ·)
  fin : ∀ p ∈ fl, 0 ≤ p.1 ∧ p.1 ≤ l - 1 ∧ (p.2 = 1 ∨ p.2 = -1)
  nle : na.length ≤ 3
  fle : fl.length ≤ 3
end Rw

namespace Rw
/-! ### rooms joined by pipes: two ways to look, one word -/
abbrev Ed := Nat × Nat
/-! what any parting of the rooms that no pipe crosses says -/
def Con (n : Nat) (E : List Ed) : Prop := ∀ S : Nat → Bool, (∀ e ∈ E, S e.1 = S e.2) → ∀ a, a < n → S a = S 0
/-! groups -/
def grp (g : List Int) (a : Nat) : Int := g.getD a 0
def merge (k o : Int) (g : List Int) : List Int := g.map fun v => if v = o then k else v
def step (g : List Int) (e : Ed) : List Int := merge (grp g e.1) (grp g e.2) g
def joins : List Int → List Ed → Bool
  | _, [] => true
  | g, e :: E => if grp g e.1 = grp g e.2 then false else joins (step g e) E
def start (n : Nat) : List Int := (List.range n).map Int.ofNat
theorem merge_len (k o : Int) (g : List Int) : (merge k o g).length = g.length := List.length_map _
theorem merge_grp {g : List Int} {a : Nat} (h : a < g.length) (k o : Int) : grp (merge k o g) a = if grp g a = o then k else grp g a := by
  unfold grp merge
  rw [List.getD_eq_getElem?_getD, List.getElem?_map, List.getD_eq_getElem?_getD, List.getElem?_eq_getElem h]
  rfl
theorem merge_self (k : Int) (g : List Int) : merge k k g = g := by
  unfold merge
  conv => rhs; rw [← List.map_id g]
  apply List.map_congr_left
  intro v _
  by_cases h : v = k
  · rw [if_pos h, h]; rfl
  · rw [if_neg h]; rfl
/-! how many names of groups are left -/
def used (n : Nat) (g : List Int) : List Nat := (List.range n).filter fun v => decide ((v : Int) ∈ g)
theorem grp_mem {g : List Int} {a : Nat} (h : a < g.length) : grp g a ∈ g := by
  unfold grp
  rw [List.getD_eq_getElem?_getD, List.getElem?_eq_getElem h]
  exact List.getElem_mem h
theorem mem_grp {g : List Int} {v : Int} (h : v ∈ g) : ∃ a, a < g.length ∧ grp g a = v := by
  obtain ⟨a, ha, e⟩ := List.mem_iff_getElem.mp h
  refine ⟨a, ha, ?_⟩
  unfold grp
  rw [List.getD_eq_getElem?_getD, List.getElem?_eq_getElem ha, ← e]; rfl
theorem mem_merge {k o v : Int} {g : List Int} (hk : k ∈ g) (hko : k ≠ o) : v ∈ merge k o g ↔ v ∈ g ∧ v ≠ o := by
  unfold merge
  rw [List.mem_map]
  constructor
  · rintro ⟨u, hu, e⟩
    by_cases h : u = o
    · rw [if_pos h] at e; subst e; exact ⟨hk, hko⟩
    · rw [if_neg h] at e; subst e; exact ⟨hu, h⟩
  · rintro ⟨hv, ho⟩
    exact ⟨v, hv, if_neg ho⟩
theorem filter_drop {n : Nat} {p : Nat → Bool} {o : Nat} : ∀ l : List Nat, l.Nodup → o ∈ l → p o = true → (l.filter fun v => p v && decide (v ≠ o)).length + 1 = (l.filter p).length
  | [], _, h, _ => nomatch h
  | x :: l, nd, h, hp => by
    rw [List.nodup_cons] at nd
    by_cases e : x = o
    · subst e
      have z : (l.filter fun v => p v && decide (v ≠ x)) = l.filter p := by
        apply List.filter_congr
        intro v hv
        have : v ≠ x := fun q => nd.1 (q ▸ hv)
        rw [decide_eq_true this, Bool.and_true]
      rw [List.filter_cons, List.filter_cons, hp]
      simp only [ne_eq, not_true_eq_false, decide_false, Bool.and_false, Bool.false_eq_true, if_false, if_true]
      rw [List.length_cons]
      simp only [ne_eq] at z
      rw [z]
    · have h' : o ∈ l := (List.mem_cons.mp h).elim (fun q => absurd q.symm e) id
      have ih := filter_drop (n := n) l nd.2 h' hp
      rw [List.filter_cons, List.filter_cons, decide_eq_true e, Bool.and_true]
      by_cases px : p x = true
      · rw [if_pos px, if_pos px, List.length_cons, List.length_cons]; omega
      · rw [if_neg px, if_neg px]; exact ih
structure Gs (n : Nat) (g : List Int) : Prop where
  len : g.length = n
  rng : ∀ v ∈ g, 0 ≤ v ∧ v < n
theorem Gs.start (n : Nat) : Gs n (start n) := by
  refine ⟨by unfold Rw.start; rw [List.length_map, List.length_range], fun v hv => ?_⟩
  unfold Rw.start at hv
  obtain ⟨a, ha, rfl⟩ := List.mem_map.mp hv
  have := List.mem_range.mp ha
  exact ⟨Int.natCast_nonneg a, Int.ofNat_lt.mpr this⟩
theorem Gs.step {n : Nat} {g : List Int} {e : Ed} (h : Gs n g) (h1 : e.1 < n) (h2 : e.2 < n) : Gs n (step g e) := by
  refine ⟨by unfold Rw.step; rw [merge_len]; exact h.len, fun v hv => ?_⟩
  unfold Rw.step merge at hv
  obtain ⟨u, hu, rfl⟩ := List.mem_map.mp hv
  by_cases q : u = grp g e.2
  · rw [if_pos q]; exact h.rng _ (grp_mem (by rw [h.len]; exact h1))
  · rw [if_neg q]; exact h.rng u hu
theorem used_step {n : Nat} {g : List Int} {e : Ed} (h : Gs n g) (h1 : e.1 < n) (h2 : e.2 < n) (ne : grp g e.1 ≠ grp g e.2) : (used n (step g e)).length + 1 = (used n g).length := by
  have m1 : grp g e.1 ∈ g := grp_mem (by rw [h.len]; exact h1)
  have m2 : grp g e.2 ∈ g := grp_mem (by rw [h.len]; exact h2)
  have r2 := h.rng _ m2
  have eo : ((grp g e.2).toNat : Int) = grp g e.2 := by omega
  unfold used Rw.step
  have z : ((List.range n).filter fun (v : Nat) => decide ((v : Int) ∈ merge (grp g e.1) (grp g e.2) g)) = (List.range n).filter fun (v : Nat) => decide ((v : Int) ∈ g) && decide (v ≠ (grp g e.2).toNat) := by
    apply List.filter_congr
    intro v _
    rw [← Bool.decide_and]
    apply decide_eq_decide.mpr
    rw [mem_merge m1 ne]
    constructor
    · rintro ⟨a, b⟩; exact ⟨a, fun q => b (by rw [q]; exact eo)⟩
    · rintro ⟨a, b⟩; exact ⟨a, fun q => b (by omega)⟩
  rw [z]
  exact filter_drop (n := n) (List.range n) List.nodup_range (List.mem_range.mpr (by omega)) (decide_eq_true (by rw [eo]; exact m2))
theorem used_start (n : Nat) : (used n (start n)).length = n := by
  unfold used
  rw [List.filter_eq_self.mpr (fun v hv => decide_eq_true (by unfold Rw.start; exact List.mem_map.mpr ⟨v, hv, rfl⟩)), List.length_range]
/-! all pipes taken, whether or not they join anew -/
def run (g : List Int) (E : List Ed) : List Int := E.foldl step g
theorem run_gs {n : Nat} : ∀ (E : List Ed) (g : List Int), (∀ e ∈ E, e.1 < n ∧ e.2 < n) → Gs n g → Gs n (run g E)
  | [], g, _, h => h
  | e :: E, g, hE, h => run_gs E (step g e) (fun f m => hE f (List.mem_cons_of_mem _ m)) (h.step (hE e List.mem_cons_self).1 (hE e List.mem_cons_self).2)
theorem used_run {n : Nat} : ∀ (E : List Ed) (g : List Int), (∀ e ∈ E, e.1 < n ∧ e.2 < n) → Gs n g → (used n g).length ≤ (used n (run g E)).length + E.length ∧ (joins g E = true → (used n g).length = (used n (run g E)).length + E.length) ∧ (joins g E = false → (used n g).length < (used n (run g E)).length + E.length)
  | [], g, _, h => ⟨Nat.le_refl _, fun _ => rfl, fun q => nomatch q⟩
  | e :: E, g, hE, h => by
    have he := hE e List.mem_cons_self
    have ih := used_run E (step g e) (fun f m => hE f (List.mem_cons_of_mem _ m)) (h.step he.1 he.2)
    have er : run g (e :: E) = run (step g e) E := rfl
    have ej : joins g (e :: E) = if grp g e.1 = grp g e.2 then false else joins (step g e) E := rfl
    rw [er, ej, List.length_cons]
    by_cases q : grp g e.1 = grp g e.2
    · have es : step g e = g := by unfold Rw.step; rw [q]; exact merge_self _ _
      rw [es] at ih ⊢
      rw [if_pos q]
      exact ⟨by omega, fun z => absurd z (by decide), fun _ => by omega⟩
    · have u := used_step h he.1 he.2 q
      rw [if_neg q]
      refine ⟨by omega, fun z => ?_, fun z => ?_⟩
      · have := ih.2.1 z; omega
      · have := ih.2.2 z; omega
/-! rooms of one group stay of one group; a pipe's rooms are of one -/
theorem step_keep {g : List Int} {e : Ed} {a b : Nat} (ha : a < g.length) (hb : b < g.length) (h : grp g a = grp g b) : grp (step g e) a = grp (step g e) b := by
  unfold step
  rw [merge_grp ha, merge_grp hb, h]
theorem step_both {g : List Int} {e : Ed} (ha : e.1 < g.length) (hb : e.2 < g.length) : grp (step g e) e.1 = grp (step g e) e.2 := by
  unfold step
  rw [merge_grp ha, merge_grp hb, if_pos rfl]
  split <;> rfl
theorem run_keep {n : Nat} : ∀ (E : List Ed) (g : List Int), (∀ e ∈ E, e.1 < n ∧ e.2 < n) → Gs n g → ∀ a b, a < n → b < n → grp g a = grp g b → grp (run g E) a = grp (run g E) b
  | [], _, _, _, _, _, _, _, h => h
  | e :: E, g, hE, hg, a, b, ha, hb, h => by
    have he := hE e List.mem_cons_self
    exact run_keep E (step g e) (fun f m => hE f (List.mem_cons_of_mem _ m)) (hg.step he.1 he.2) a b ha hb (step_keep (by rw [hg.len]; exact ha) (by rw [hg.len]; exact hb) h)
theorem run_edges {n : Nat} : ∀ (E : List Ed) (g : List Int), (∀ e ∈ E, e.1 < n ∧ e.2 < n) → Gs n g → ∀ e ∈ E, grp (run g E) e.1 = grp (run g E) e.2
  | [], _, _, _, _, m => nomatch m
  | e :: E, g, hE, hg, f, m => by
    have he := hE e List.mem_cons_self
    have hg' := hg.step he.1 he.2
    have hE' : ∀ f ∈ E, f.1 < n ∧ f.2 < n := fun f m => hE f (List.mem_cons_of_mem _ m)
    rcases List.mem_cons.mp m with m | m
    · subst m
      exact run_keep E (step g f) hE' hg' f.1 f.2 he.1 he.2 (step_both (by rw [hg.len]; exact he.1) (by rw [hg.len]; exact he.2))
    · exact run_edges E (step g e) hE' hg' f m
/-! a parting that no pipe crosses holds groups together -/
theorem run_part {n : Nat} (S : Nat → Bool) : ∀ (E : List Ed) (g : List Int), (∀ e ∈ E, e.1 < n ∧ e.2 < n) → (∀ e ∈ E, S e.1 = S e.2) → Gs n g → (∀ a b, a < n → b < n → grp g a = grp g b → S a = S b) → ∀ a b, a < n → b < n → grp (run g E) a = grp (run g E) b → S a = S b
  | [], _, _, _, _, h, a, b, ha, hb, e => h a b ha hb e
  | e :: E, g, hE, hS, hg, h, a, b, ha, hb, q => by
    have he := hE e List.mem_cons_self
    have hs := hS e List.mem_cons_self
    refine run_part S E (step g e) (fun f m => hE f (List.mem_cons_of_mem _ m)) (fun f m => hS f (List.mem_cons_of_mem _ m)) (hg.step he.1 he.2) (fun c d hc hd z => ?_) a b ha hb q
    unfold step at z
    rw [merge_grp (by rw [hg.len]; exact hc), merge_grp (by rw [hg.len]; exact hd)] at z
    by_cases c1 : grp g c = grp g e.2
    · by_cases d1 : grp g d = grp g e.2
      · exact h c d hc hd (c1.trans d1.symm)
      · rw [if_pos c1, if_neg d1] at z
        rw [h c e.2 hc he.2 c1, ← hs, h d e.1 hd he.1 z.symm]
    · by_cases d1 : grp g d = grp g e.2
      · rw [if_neg c1, if_pos d1] at z
        rw [h d e.2 hd he.2 d1, ← hs, h c e.1 hc he.1 z]
      · rw [if_neg c1, if_neg d1] at z
        exact h c d hc hd z
theorem start_inj {n a b : Nat} (ha : a < n) (hb : b < n) (h : grp (start n) a = grp (start n) b) : a = b := by
  unfold grp start at h
  rw [List.getD_eq_getElem?_getD, List.getD_eq_getElem?_getD, List.getElem?_map, List.getElem?_map, List.getElem?_range ha, List.getElem?_range hb] at h
  exact Int.ofNat.inj h
theorem one_used {n : Nat} {g : List Int} (hg : Gs n g) (h : (used n g).length ≤ 1) {a b : Nat} (ha : a < n) (hb : b < n) : grp g a = grp g b := by
  have ma := grp_mem (g := g) (by rw [hg.len]; exact ha)
  have mb := grp_mem (g := g) (by rw [hg.len]; exact hb)
  have ra := hg.rng _ ma
  have rb := hg.rng _ mb
  have ua : (grp g a).toNat ∈ used n g := List.mem_filter.mpr ⟨List.mem_range.mpr (by omega), decide_eq_true (by rw [show (((grp g a).toNat : Nat) : Int) = grp g a by omega]; exact ma)⟩
  have ub : (grp g b).toNat ∈ used n g := List.mem_filter.mpr ⟨List.mem_range.mpr (by omega), decide_eq_true (by rw [show (((grp g b).toNat : Nat) : Int) = grp g b by omega]; exact mb)⟩
  match hu : used n g, h with
  | [], _ => rw [hu] at ua; exact absurd ua List.not_mem_nil
  | [x], _ =>
    rw [hu] at ua ub
    have e1 := List.mem_singleton.mp ua
    have e2 := List.mem_singleton.mp ub
    omega
theorem used_one {n : Nat} {g : List Int} (hg : Gs n g) (h : ∀ a, a < n → grp g a = grp g 0) : (used n g).length ≤ 1 := by
  have nd : (used n g).Nodup := List.nodup_range.filter _
  have all : ∀ v ∈ used n g, (v : Int) = grp g 0 := fun v hv => by
    obtain ⟨a, ha, e⟩ := mem_grp (of_decide_eq_true (List.mem_filter.mp hv).2)
    rw [← e]
    exact h a (by rw [← hg.len]; exact ha)
  match hu : used n g, nd, all with
  | [], _, _ => exact Nat.zero_le _
  | [x], _, _ => exact Nat.le_refl _
  | x :: y :: r, nd, all =>
    have e1 := all x List.mem_cons_self
    have e2 := all y (List.mem_cons_of_mem _ List.mem_cons_self)
    rw [List.nodup_cons] at nd
    exact absurd (show x ∈ y :: r by rw [show x = y by omega]; exact List.mem_cons_self) nd.1
theorem joins_iff {n : Nat} {E : List Ed} (hn : 0 < n) (hE : ∀ e ∈ E, e.1 < n ∧ e.2 < n) (hl : E.length + 1 = n) : joins (start n) E = true ↔ Con n E := by
  have hg := Gs.start n
  have hr := run_gs E (start n) hE hg
  have hu := used_run E (start n) hE hg
  rw [used_start] at hu
  constructor
  · intro hj S hS a ha
    have h1 := hu.2.1 hj
    have eq := one_used hr (by omega) ha hn
    exact run_part S E (start n) hE hS hg (fun c d hc hd z => by rw [start_inj hc hd z]) a 0 ha hn eq
  · intro hc
    cases hj : joins (start n) E with
    | true => rfl
    | false =>
      have h1 := hu.2.2 hj
      have all : ∀ a, a < n → grp (run (start n) E) a = grp (run (start n) E) 0 := fun a ha => by
        have z := hc (fun a => decide (grp (run (start n) E) a = grp (run (start n) E) 0)) (fun e m => by
          have := run_edges E (start n) hE hg e m
          show decide _ = decide _
          rw [this]) a ha
        have z0 : decide (grp (run (start n) E) 0 = grp (run (start n) E) 0) = true := decide_eq_true rfl
        exact of_decide_eq_true (z.trans z0)
      have := used_one hr all
      omega
end Rw

namespace Rw
structure Pi where
  x : Int
  y : Int
  l : Int
  na : List (Int × Int)
  fl : List (Int × Int)
deriving Inhabited
def edges (ps : List Pi) : List Ed := ps.map fun p => (p.x.toNat, p.y.toNat)
end Rw

namespace Rw
/-! ### distances of rooms in a house: a tree's metric, built pipe by pipe -/
def Dn (ps : List Pi) (d : Int → Int → Int) (s t : Int) (i : Nat) : Prop :=
  ∃ p, ps[i]? = some p ∧ ((p.x = t ∧ d s p.y + p.l = d s t) ∨ (p.y = t ∧ d s p.x + p.l = d s t))
structure FM (ps : List Pi) (g : Int → Int) (d : Int → Int → Int) : Prop where
  len : ∀ p ∈ ps, 1 ≤ p.l
  zero : ∀ s, d s s = 0
  sym : ∀ s t, d s t = d t s
  pos : ∀ s t, g s = g t → s ≠ t → 0 < d s t
  ends : ∀ p ∈ ps, g p.x = g p.y
  step : ∀ p ∈ ps, ∀ s, g s = g p.x → d s p.x = d s p.y + p.l ∨ d s p.y = d s p.x + p.l
  par : ∀ s t, g s = g t → s ≠ t → ∃ i, Dn ps d s t i
  uni : ∀ s t i j, g s = g t → Dn ps d s t i → Dn ps d s t j → i = j
  side : ∀ (i j : Nat) (p q : Pi), i ≠ j → ps[i]? = some p → ps[j]? = some q → g p.x = g q.x → d p.x q.x - d p.y q.x = d p.x q.y - d p.y q.y
theorem FM.nn {ps : List Pi} {g : Int → Int} {d : Int → Int → Int} (F : FM ps g d) {s t : Int} (h : g s = g t) : 0 ≤ d s t := by
  by_cases e : s = t
  · subst e; rw [F.zero]; exact Int.le_refl 0
  · have := F.pos s t h e; omega
def g1 (g : Int → Int) (p : Pi) (r : Int) : Int := if g r = g p.y then g p.x else g r
def d1 (g : Int → Int) (d : Int → Int → Int) (p : Pi) (s t : Int) : Int :=
  if g s = g t then d s t else if g s = g p.x ∧ g t = g p.y then d s p.x + p.l + d p.y t else if g s = g p.y ∧ g t = g p.x then d s p.y + p.l + d p.x t else 0
theorem FM.empty : FM [] id (fun _ _ => 0) where
  len := fun _ h => nomatch h
  zero := fun _ => rfl
  sym := fun _ _ => rfl
  pos := fun s t h n => absurd h n
  ends := fun _ h => nomatch h
  step := fun _ h => nomatch h
  par := fun s t h n => absurd h n
  uni := fun _ _ _ _ _ ⟨_, h, _⟩ => by simp at h
  side := fun _ _ _ _ _ h => by simp at h
section
variable {ps : List Pi} {g : Int → Int} {d : Int → Int → Int} {p : Pi}
theorem d1_same {s t : Int} (h : g s = g t) : d1 g d p s t = d s t := by unfold d1; rw [if_pos h]
theorem d1_ab (ne : g p.x ≠ g p.y) {s t : Int} (h1 : g s = g p.x) (h2 : g t = g p.y) : d1 g d p s t = d s p.x + p.l + d p.y t := by
  unfold d1; rw [if_neg (by rw [h1, h2]; exact ne), if_pos ⟨h1, h2⟩]
theorem d1_ba (ne : g p.x ≠ g p.y) {s t : Int} (h1 : g s = g p.y) (h2 : g t = g p.x) : d1 g d p s t = d s p.y + p.l + d p.x t := by
  unfold d1; rw [if_neg (by rw [h1, h2]; exact ne.symm), if_neg (by rw [h1]; exact fun z => ne z.1.symm), if_pos ⟨h1, h2⟩]
theorem g1_cases {s t : Int} (h : g1 g p s = g1 g p t) : g s = g t ∨ (g s = g p.x ∧ g t = g p.y) ∨ (g s = g p.y ∧ g t = g p.x) := by
  unfold g1 at h
  split at h <;> split at h <;> rename_i a b
  · exact .inl (a.trans b.symm)
  · exact .inr (.inr ⟨a, h.symm⟩)
  · exact .inr (.inl ⟨h, b⟩)
  · exact .inl h
theorem get_snoc {i : Nat} {q : Pi} (h : (ps ++ [p])[i]? = some q) : (ps[i]? = some q ∧ q ∈ ps) ∨ (i = ps.length ∧ q = p) := by
  by_cases hi : i < ps.length
  · rw [List.getElem?_append_left hi] at h
    exact .inl ⟨h, List.mem_of_getElem? h⟩
  · rw [List.getElem?_append_right (by omega)] at h
    right
    have : i - ps.length = 0 := by
      apply Classical.byContradiction
      intro z
      rw [List.getElem?_eq_none (by simp; omega)] at h
      cases h
    rw [this] at h
    simp at h
    exact ⟨by omega, h.symm⟩
theorem snoc_get {i : Nat} {q : Pi} (h : ps[i]? = some q) : (ps ++ [p])[i]? = some q := by
  rw [List.getElem?_append_left (List.getElem?_eq_some_iff.mp h).1]; exact h
theorem snoc_last : (ps ++ [p])[ps.length]? = some p := by
  rw [List.getElem?_append_right (Nat.le_refl _), Nat.sub_self]; rfl
/-! going down: old pipes of the same group, of the other one -/
theorem dn_same (F : FM ps g d) {s t : Int} (h : g s = g t) {i : Nat} {q : Pi} (e : ps[i]? = some q) (m : q ∈ ps) :
    ((q.x = t ∧ d1 g d p s q.y + q.l = d1 g d p s t) ∨ (q.y = t ∧ d1 g d p s q.x + q.l = d1 g d p s t)) ↔ ((q.x = t ∧ d s q.y + q.l = d s t) ∨ (q.y = t ∧ d s q.x + q.l = d s t)) := by
  have en := F.ends q m
  rw [d1_same h]
  constructor <;> rintro (⟨a, b⟩ | ⟨a, b⟩)
  · exact .inl ⟨a, by rw [d1_same (by rw [h, ← a, en])] at b; exact b⟩
  · exact .inr ⟨a, by rw [d1_same (by rw [h, ← a, en])] at b; exact b⟩
  · exact .inl ⟨a, by rw [d1_same (by rw [h, ← a, en])]; exact b⟩
  · exact .inr ⟨a, by rw [d1_same (by rw [h, ← a, en])]; exact b⟩
theorem dn_ab (F : FM ps g d) (ne : g p.x ≠ g p.y) {s t : Int} (h1 : g s = g p.x) (h2 : g t = g p.y) {q : Pi} (m : q ∈ ps) :
    ((q.x = t ∧ d1 g d p s q.y + q.l = d1 g d p s t) ∨ (q.y = t ∧ d1 g d p s q.x + q.l = d1 g d p s t)) ↔ ((q.x = t ∧ d p.y q.y + q.l = d p.y t) ∨ (q.y = t ∧ d p.y q.x + q.l = d p.y t)) := by
  have en := F.ends q m
  rw [d1_ab ne h1 h2]
  constructor <;> rintro (⟨a, b⟩ | ⟨a, b⟩)
  · exact .inl ⟨a, by rw [d1_ab ne h1 (by rw [← h2, ← a, en])] at b; omega⟩
  · exact .inr ⟨a, by rw [d1_ab ne h1 (by rw [← h2, ← a, en])] at b; omega⟩
  · exact .inl ⟨a, by rw [d1_ab ne h1 (by rw [← h2, ← a, en])]; omega⟩
  · exact .inr ⟨a, by rw [d1_ab ne h1 (by rw [← h2, ← a, en])]; omega⟩
theorem dn_ba (F : FM ps g d) (ne : g p.x ≠ g p.y) {s t : Int} (h1 : g s = g p.y) (h2 : g t = g p.x) {q : Pi} (m : q ∈ ps) :
    ((q.x = t ∧ d1 g d p s q.y + q.l = d1 g d p s t) ∨ (q.y = t ∧ d1 g d p s q.x + q.l = d1 g d p s t)) ↔ ((q.x = t ∧ d p.x q.y + q.l = d p.x t) ∨ (q.y = t ∧ d p.x q.x + q.l = d p.x t)) := by
  have en := F.ends q m
  rw [d1_ba ne h1 h2]
  constructor <;> rintro (⟨a, b⟩ | ⟨a, b⟩)
  · exact .inl ⟨a, by rw [d1_ba ne h1 (by rw [← h2, ← a, en])] at b; omega⟩
  · exact .inr ⟨a, by rw [d1_ba ne h1 (by rw [← h2, ← a, en])] at b; omega⟩
  · exact .inl ⟨a, by rw [d1_ba ne h1 (by rw [← h2, ← a, en])]; omega⟩
  · exact .inr ⟨a, by rw [d1_ba ne h1 (by rw [← h2, ← a, en])]; omega⟩
/-! the new pipe and an old one can't both lead down -/
theorem dn_new_old (F : FM ps g d) (ne : g p.x ≠ g p.y) (hl : 1 ≤ p.l) {s t : Int} (h : g1 g p s = g1 g p t) {q : Pi} (m : q ∈ ps)
    (hp : (p.x = t ∧ d1 g d p s p.y + p.l = d1 g d p s t) ∨ (p.y = t ∧ d1 g d p s p.x + p.l = d1 g d p s t))
    (hq : (q.x = t ∧ d1 g d p s q.y + q.l = d1 g d p s t) ∨ (q.y = t ∧ d1 g d p s q.x + q.l = d1 g d p s t)) : False := by
  have en := F.ends q m
  have ql := F.len q m
  rcases hp with ⟨rfl, b⟩ | ⟨rfl, b⟩
  · rcases g1_cases h with c | ⟨c1, c2⟩ | ⟨c1, c2⟩
    · rw [d1_ab ne c rfl, d1_same c, F.zero] at b; omega
    · exact ne c2
    · rcases (dn_ba F ne c1 c2 m).mp hq with ⟨a, z⟩ | ⟨a, z⟩
      · have := F.nn (s := p.x) (t := q.y) (by rw [← en, a]); rw [F.zero] at z; omega
      · have := F.nn (s := p.x) (t := q.x) (by rw [en, a]); rw [F.zero] at z; omega
  · rcases g1_cases h with c | ⟨c1, c2⟩ | ⟨c1, c2⟩
    · rw [d1_ba ne c rfl, d1_same c, F.zero] at b; omega
    · rcases (dn_ab F ne c1 c2 m).mp hq with ⟨a, z⟩ | ⟨a, z⟩
      · have := F.nn (s := p.y) (t := q.y) (by rw [← en, a]); rw [F.zero] at z; omega
      · have := F.nn (s := p.y) (t := q.x) (by rw [en, a]); rw [F.zero] at z; omega
    · exact ne c2.symm
theorem FM.snoc (F : FM ps g d) (ne : g p.x ≠ g p.y) (hl : 1 ≤ p.l) : FM (ps ++ [p]) (g1 g p) (d1 g d p) where
  len := fun q m => (List.mem_append.mp m).elim (F.len q) fun z => by rw [List.mem_singleton.mp z]; exact hl
  zero := fun s => by rw [d1_same rfl]; exact F.zero s
  sym := fun s t => by
    show d1 g d p s t = d1 g d p t s
    by_cases h : g s = g t
    · rw [d1_same h, d1_same h.symm]; exact F.sym s t
    · by_cases h1 : g s = g p.x ∧ g t = g p.y
      · rw [d1_ab ne h1.1 h1.2, d1_ba ne h1.2 h1.1, F.sym s p.x, F.sym t p.y]; omega
      · by_cases h2 : g s = g p.y ∧ g t = g p.x
        · rw [d1_ba ne h2.1 h2.2, d1_ab ne h2.2 h2.1, F.sym s p.y, F.sym t p.x]; omega
        · unfold d1
          rw [if_neg h, if_neg h1, if_neg h2, if_neg (fun z : g t = g s => h z.symm), if_neg (fun z : g t = g p.x ∧ g s = g p.y => h2 ⟨z.2, z.1⟩), if_neg (fun z : g t = g p.y ∧ g s = g p.x => h1 ⟨z.2, z.1⟩)]
  pos := fun s t h n => by
    rcases g1_cases h with c | ⟨c1, c2⟩ | ⟨c1, c2⟩
    · rw [d1_same c]; exact F.pos s t c n
    · rw [d1_ab ne c1 c2]; have := F.nn c1; have := F.nn (s := p.y) (t := t) c2.symm; omega
    · rw [d1_ba ne c1 c2]; have := F.nn c1; have := F.nn (s := p.x) (t := t) c2.symm; omega
  ends := fun q m => by
    rcases List.mem_append.mp m with m | m
    · unfold g1; rw [F.ends q m]
    · rw [List.mem_singleton.mp m]; unfold g1; rw [if_pos rfl, if_neg ne]
  step := fun q m s h => by
    rcases List.mem_append.mp m with m | m
    · have en := F.ends q m
      rcases g1_cases h with c | ⟨c1, c2⟩ | ⟨c1, c2⟩
      · rw [d1_same c, d1_same (c.trans en)]; exact F.step q m s c
      · rw [d1_ab ne c1 c2, d1_ab ne c1 (en.symm.trans c2)]; have := F.step q m p.y c2.symm; omega
      · rw [d1_ba ne c1 c2, d1_ba ne c1 (en.symm.trans c2)]; have := F.step q m p.x c2.symm; omega
    · rw [List.mem_singleton.mp m] at h ⊢
      rcases g1_cases h with c | ⟨c1, c2⟩ | ⟨c1, c2⟩
      · rw [d1_same c, d1_ab ne c rfl, F.zero]; omega
      · exact absurd c2 ne
      · rw [d1_ba ne c1 rfl, d1_same c1, F.zero]; omega
  par := fun s t h n => by
    rcases g1_cases h with c | ⟨c1, c2⟩ | ⟨c1, c2⟩
    · obtain ⟨i, q, e, z⟩ := F.par s t c n
      exact ⟨i, q, snoc_get e, (dn_same F c e (List.mem_of_getElem? e)).mpr z⟩
    · by_cases e : p.y = t
      · subst e
        exact ⟨ps.length, p, snoc_last, .inr ⟨rfl, by rw [d1_same c1, d1_ab ne c1 rfl, F.zero]; omega⟩⟩
      · obtain ⟨i, q, e, z⟩ := F.par p.y t c2.symm e
        exact ⟨i, q, snoc_get e, (dn_ab F ne c1 c2 (List.mem_of_getElem? e)).mpr z⟩
    · by_cases e : p.x = t
      · subst e
        exact ⟨ps.length, p, snoc_last, .inl ⟨rfl, by rw [d1_same c1, d1_ba ne c1 rfl, F.zero]; omega⟩⟩
      · obtain ⟨i, q, e, z⟩ := F.par p.x t c2.symm e
        exact ⟨i, q, snoc_get e, (dn_ba F ne c1 c2 (List.mem_of_getElem? e)).mpr z⟩
  uni := fun s t i j h ⟨q1, e1, z1⟩ ⟨q2, e2, z2⟩ => by
    rcases get_snoc e1 with ⟨f1, m1⟩ | ⟨f1, rfl⟩ <;> rcases get_snoc e2 with ⟨f2, m2⟩ | ⟨f2, k2⟩
    · rcases g1_cases h with c | ⟨c1, c2⟩ | ⟨c1, c2⟩
      · exact F.uni s t i j c ⟨q1, f1, (dn_same F c f1 m1).mp z1⟩ ⟨q2, f2, (dn_same F c f2 m2).mp z2⟩
      · exact F.uni p.y t i j c2.symm ⟨q1, f1, (dn_ab F ne c1 c2 m1).mp z1⟩ ⟨q2, f2, (dn_ab F ne c1 c2 m2).mp z2⟩
      · exact F.uni p.x t i j c2.symm ⟨q1, f1, (dn_ba F ne c1 c2 m1).mp z1⟩ ⟨q2, f2, (dn_ba F ne c1 c2 m2).mp z2⟩
    · subst k2; exact (dn_new_old F ne hl h m1 z2 z1).elim
    · exact (dn_new_old F ne hl h m2 z1 z2).elim
    · rw [f1, f2]
  side := fun i j q1 q2 nij e1 e2 h => by
    rcases get_snoc e1 with ⟨f1, m1⟩ | ⟨f1, k1⟩ <;> rcases get_snoc e2 with ⟨f2, m2⟩ | ⟨f2, k2⟩
    · have n1 := F.ends q1 m1
      have n2 := F.ends q2 m2
      rcases g1_cases h with c | ⟨c1, c2⟩ | ⟨c1, c2⟩
      · rw [d1_same c, d1_same (n1.symm.trans c), d1_same (c.trans n2), d1_same (n1.symm.trans (c.trans n2))]
        exact F.side i j q1 q2 nij f1 f2 c
      · rw [d1_ab ne c1 c2, d1_ab ne (n1.symm.trans c1) c2, d1_ab ne c1 (n2.symm.trans c2), d1_ab ne (n1.symm.trans c1) (n2.symm.trans c2)]; omega
      · rw [d1_ba ne c1 c2, d1_ba ne (n1.symm.trans c1) c2, d1_ba ne c1 (n2.symm.trans c2), d1_ba ne (n1.symm.trans c1) (n2.symm.trans c2)]; omega
    · subst k2
      have n1 := F.ends q1 m1
      rcases g1_cases h with c | ⟨c1, c2⟩ | ⟨c1, c2⟩
      · rw [d1_same c, d1_same (n1.symm.trans c), d1_ab ne c rfl, d1_ab ne (n1.symm.trans c) rfl]; omega
      · exact absurd c2 ne
      · rw [d1_ba ne c1 rfl, d1_ba ne (n1.symm.trans c1) rfl, d1_same c1, d1_same (n1.symm.trans c1), F.zero]; omega
    · subst k1
      have n2 := F.ends q2 m2
      rcases g1_cases h with c | ⟨c1, c2⟩ | ⟨c1, c2⟩
      · rw [d1_same c, d1_same (c.trans n2), d1_ba ne rfl c.symm, d1_ba ne rfl (n2.symm.trans c.symm), F.zero]; omega
      · rw [d1_ab ne rfl c2, d1_ab ne rfl (n2.symm.trans c2), d1_same c2.symm, d1_same (c2.symm.trans n2), F.zero]; omega
      · exact absurd c1 ne
    · exact absurd (f1.trans f2.symm) nij
end
/-! all pipes of a house, one behind another -/
theorem FM.all {n : Int} (n0 : 0 ≤ n) : ∀ (qs ps : List Pi) (gl : List Int) (g : Int → Int) (d : Int → Int → Int), FM ps g d → gl.length = n.toNat → (∀ r, 0 ≤ r → r < n → g r = grp gl r.toNat) →
    (∀ p ∈ qs, 0 ≤ p.x ∧ p.x < n ∧ 0 ≤ p.y ∧ p.y < n ∧ 1 ≤ p.l) → joins gl (edges qs) = true → ∃ g' d', FM (ps ++ qs) g' d'
  | [], ps, gl, g, d, F, _, _, _, _ => ⟨g, d, by rw [List.append_nil]; exact F⟩
  | p :: qs, ps, gl, g, d, F, hl, hg, ok, hj => by
    obtain ⟨a1, a2, a3, a4, a5⟩ := ok p List.mem_cons_self
    have hj' : (if grp gl p.x.toNat = grp gl p.y.toNat then false else joins (Rw.step gl (p.x.toNat, p.y.toNat)) (edges qs)) = true := hj
    split at hj'
    · cases hj'
    · rename_i ne
      have ne' : g p.x ≠ g p.y := by rw [hg _ a1 a2, hg _ a3 a4]; exact ne
      obtain ⟨g', d', F'⟩ := FM.all n0 qs (ps ++ [p]) (Rw.step gl (p.x.toNat, p.y.toNat)) (g1 g p) (d1 g d p) (F.snoc ne' a5) (by unfold Rw.step; rw [merge_len]; exact hl) (fun r r0 r1 => by
        unfold Rw.step g1
        rw [merge_grp (by omega), hg _ r0 r1, hg _ a1 a2, hg _ a3 a4]) (fun q m => ok q (List.mem_cons_of_mem _ m)) hj'
      exact ⟨g', d', by rw [List.append_assoc] at F'; exact F'⟩
/-! ### the rooms' distances of a house -/
structure Tm (n : Int) (ps : List Pi) (d : Int → Int → Int) : Prop where
  ok : ∀ p ∈ ps, 0 ≤ p.x ∧ p.x < n ∧ 0 ≤ p.y ∧ p.y < n ∧ 1 ≤ p.l
  zero : ∀ s, d s s = 0
  sym : ∀ s t, d s t = d t s
  pos : ∀ s t, 0 ≤ s → s < n → 0 ≤ t → t < n → s ≠ t → 0 < d s t
  step : ∀ p ∈ ps, ∀ s, 0 ≤ s → s < n → d s p.x = d s p.y + p.l ∨ d s p.y = d s p.x + p.l
  par : ∀ s t, 0 ≤ s → s < n → 0 ≤ t → t < n → s ≠ t → ∃ i, Dn ps d s t i
  uni : ∀ s t i j, 0 ≤ s → s < n → 0 ≤ t → t < n → Dn ps d s t i → Dn ps d s t j → i = j
  side : ∀ (i j : Nat) (p q : Pi), i ≠ j → ps[i]? = some p → ps[j]? = some q → d p.x q.x - d p.y q.x = d p.x q.y - d p.y q.y
theorem tree {n : Int} {ps : List Pi} (n0 : 1 ≤ n) (ln : (ps.length : Int) = n - 1) (ok : ∀ p ∈ ps, 0 ≤ p.x ∧ p.x < n ∧ 0 ≤ p.y ∧ p.y < n ∧ 1 ≤ p.l) (con : Con n.toNat (edges ps)) : ∃ d, Tm n ps d := by
  have hE : ∀ e ∈ edges ps, e.1 < n.toNat ∧ e.2 < n.toNat := by
    intro e he
    obtain ⟨p, m, rfl⟩ := List.mem_map.mp he
    obtain ⟨a1, a2, a3, a4, _⟩ := ok p m
    exact ⟨by show p.x.toNat < n.toNat; omega, by show p.y.toNat < n.toNat; omega⟩
  have hj := (joins_iff (by omega) hE (by unfold edges; rw [List.length_map]; omega)).mpr con
  obtain ⟨g, d, F⟩ := FM.all (n := n) (by omega) ps [] (start n.toNat) id _ FM.empty (by unfold start; rw [List.length_map, List.length_range]) (fun r r0 r1 => by
    unfold grp start
    rw [List.getD_eq_getElem?_getD, List.getElem?_map, List.getElem?_range (by omega)]
    show r = ((r.toNat : Nat) : Int)
    omega) ok hj
  rw [List.nil_append] at F
  have all : ∀ r, 0 ≤ r → r < n → g r = g 0 := by
    intro r r0 r1
    have := con (fun a => decide (g (a : Int) = g 0)) (fun e he => by
      obtain ⟨p, m, rfl⟩ := List.mem_map.mp he
      obtain ⟨a1, a2, a3, a4, _⟩ := ok p m
      show decide (g ((p.x.toNat : Nat) : Int) = g 0) = decide (g ((p.y.toNat : Nat) : Int) = g 0)
      rw [show ((p.x.toNat : Nat) : Int) = p.x by omega, show ((p.y.toNat : Nat) : Int) = p.y by omega, F.ends p m]) r.toNat (by omega)
    have h2 : decide (g ((r.toNat : Nat) : Int) = g 0) = decide (g ((0 : Nat) : Int) = g 0) := this
    rw [show ((r.toNat : Nat) : Int) = r by omega, show ((0 : Nat) : Int) = 0 from rfl, decide_eq_true (rfl : g 0 = g 0)] at h2
    exact of_decide_eq_true h2
  have two : ∀ s t, 0 ≤ s → s < n → 0 ≤ t → t < n → g s = g t := fun s t a b c e => (all s a b).trans (all t c e).symm
  have inx : ∀ p ∈ ps, g p.x = g 0 := fun p m => all _ (ok p m).1 (ok p m).2.1
  exact ⟨d, ok, F.zero, F.sym, fun s t a b c e => F.pos s t (two s t a b c e), fun p m s a b => F.step p m s ((all s a b).trans (inx p m).symm), fun s t a b c e => F.par s t (two s t a b c e), fun s t i j a b c e => F.uni s t i j (two s t a b c e),
    fun i j p q nij e1 e2 => F.side i j p q nij e1 e2 ((inx p (List.mem_of_getElem? e1)).trans (inx q (List.mem_of_getElem? e2)).symm)⟩
theorem Tm.nn {n : Int} {ps : List Pi} {d : Int → Int → Int} (T : Tm n ps d) {s t : Int} (a : 0 ≤ s) (b : s < n) (c : 0 ≤ t) (e : t < n) : 0 ≤ d s t := by
  by_cases h : s = t
  · subst h; rw [T.zero]; exact Int.le_refl 0
  · have := T.pos s t a b c e h; omega
end Rw

namespace Rw
open PySem PySem.Spec PyProof.Rows L2
def Pi.dat (p : Pi) : PyData := pipeD p.x p.y p.l p.na p.fl
structure Pi.ok (n : Int) (p : Pi) : Prop where
  x0 : 0 ≤ p.x
  x1 : p.x ≤ n - 1
  y0 : 0 ≤ p.y
  y1 : p.y ≤ n - 1
  xy : p.x < p.y
  fit : Fit p.l p.na p.fl
theorem ins_perm {α : Type} (xs : List α) (k : Nat) (y : α) : (xs.take k ++ [y] ++ xs.drop k).Perm (y :: xs) := by
  rw [List.append_assoc]
  refine List.perm_middle.trans ?_
  show (y :: (xs.take k ++ xs.drop k)).Perm (y :: xs)
  rw [List.take_append_drop]
theorem ins_sum {α : Type} (f : α → Nat) (xs : List α) (k : Nat) (y : α) : ((xs.take k ++ [y] ++ xs.drop k).map f).sum = f y + (xs.map f).sum := by
  have e : (xs.map f).sum = ((xs.take k).map f).sum + ((xs.drop k).map f).sum := by
    rw [← List.sum_append, ← List.map_append, List.take_append_drop]
  rw [List.map_append, List.map_append, List.sum_append, List.sum_append, e]
  simp only [List.map_cons, List.map_nil, List.sum_cons, List.sum_nil]
  omega
theorem start_succ (i : Nat) : (start (i + 1)).Perm ((i : Int) :: start i) := by
  unfold start
  rw [List.range_succ, List.map_append]
  exact List.perm_append_comm
theorem start_mem {n : Nat} {v : Int} : v ∈ start n ↔ 0 ≤ v ∧ v < n := by
  unfold start
  rw [List.mem_map]
  constructor
  · rintro ⟨a, ha, rfl⟩
    have := List.mem_range.mp ha
    exact ⟨Int.natCast_nonneg a, Int.ofNat_lt.mpr this⟩
  · rintro ⟨h0, h1⟩
    exact ⟨v.toNat, List.mem_range.mpr (by omega), by show ((v.toNat : Nat) : Int) = v; omega⟩
theorem start_nodup (n : Nat) : (start n).Nodup := by
  unfold start
  exact List.Pairwise.map _ (fun a b h q => h (Int.ofNat.inj q)) List.nodup_range
theorem perm2 {a b : Int} {ns : List Int} (h : ns.Perm [a, b]) : ns = [a, b] ∨ ns = [b, a] := by
  have hl : ns.length = 2 := h.length_eq
  match ns, hl with
  | [u, v], _ =>
    have hu : u = a ∨ u = b := by simpa using h.mem_iff.mp (List.mem_cons_self (a := u) (l := [v]))
    rcases hu with rfl | rfl
    · have := (List.perm_cons u).mp h
      have e := List.perm_singleton.mp this
      left; rw [e]
    · have h2 : [u, v].Perm [u, a] := h.trans (List.Perm.swap u a [])
      have := (List.perm_cons u).mp h2
      have e := List.perm_singleton.mp this
      right; rw [e]
end Rw

namespace Rw
open PySem PySem.Spec PyProof.Rows L2
/-! ### enumerate(t) of a tuple -/
theorem enumNew {v : Value} {o : Obj} {G : Heap → Prop} (B : Begins v o G) : Meets (Builtin.«enumerate.__new__» ⟨[.type "enumerate", v], []⟩) (fun _ R s => G s.heap ∧ R (.ok (.ret (.ref (s.heap.push o).objs.size)))
    { s with heap := (s.heap.push o).push { cls := .type "enumerate", data := .fields #[.none, .bool false, .ref s.heap.objs.size, rawInt 0, .none, .none] } }) :=
  .of_wp fun prog w A R s h => by
    obtain ⟨hp, g, d, tk, os⟩ := s
    obtain ⟨gh, rest⟩ := h
    have sub0 := sub_enumerate
    have it1 : ∀ {A' : Around} {E : Value → Shared → Prop} {Q : Value → Shared → Prop}, Q (.ref hp.objs.size) ⟨hp.push o, g, d, tk, os⟩ → wpAny (model prog w) A' (pyIter v) Q E ⟨hp, g, d, tk, os⟩ := fun q => B.iter prog w _ _ ⟨hp, g, d, tk, os⟩ _ gh q
    wp_walk using it1
    refine wpAny_stack_any (fun z => wpAny_pure ?_)
    split
    · rename_i cc _ _ _ _ _
      cases (cc == Value.type "enumerate") <;> (wp_walk using it1; exact ⟨_, rfl, rest⟩)
    · wp_walk using it1
      exact ⟨_, rfl, rest⟩
theorem enumCall {prog : Program} {w : World} {A : Around} {E : Value → Shared → Prop} {s : Shared} {v : Value} {o : Obj} {G : Heap → Prop} {Q : Value → Shared → Prop} (B : Begins v o G) (hg : G s.heap)
    (h : ∀ h', IsEnum h' (s.heap.objs.size + 1) s.heap.objs.size 0 .none → h'.get? s.heap.objs.size = some o → h'.objs.size = s.heap.objs.size + 2 → (∀ b o, s.heap.get? b = some o → h'.get? b = some o) → Q (.ref (s.heap.objs.size + 1)) { s with heap := h' }) :
    wpAny (model prog w) A (call (.type "enumerate") [v]) Q E s := by
  refine callType_new F.called_enumerate (by decide) (F.typeCall_enumerate_1 _) (F.newCall_enumerate_1 _) (fun obj => F.args_object_init_2 obj _) F.entry_enumerate_new (enumNew B) ⟨hg, ?_⟩
  have z : (s.heap.push o).objs.size = s.heap.objs.size + 1 := Heap.size_push ..
  show _ ∧ _
  rw [z]
  have e : IsEnum ((s.heap.push o).push { cls := .type "enumerate", data := .fields #[.none, .bool false, .ref s.heap.objs.size, rawInt 0, .none, .none] }) (s.heap.objs.size + 1) s.heap.objs.size 0 .none := by
    have y := Heap.get?_push_size (s.heap.push o) (o := { cls := .type "enumerate", data := .fields #[.none, .bool false, .ref s.heap.objs.size, rawInt 0, .none, .none] }) rfl
    rw [z] at y
    exact y
  exact ⟨⟨_, e, rfl⟩, h _ e (Heap.get?_push_of_some _ (Heap.get?_push_size _ B.free)) (by rw [Heap.size_push, z]) (fun b o x => Heap.get?_push_of_some _ (Heap.get?_push_of_some _ x))⟩
/-- the tuple at a, each item in a new pair -/
def IteT (K : PySem.W.Frag) (a : Addr) : It :=
  ⟨fun i H => ∃ (xs : List V) (x : V), SqT K H a xs ∧ xs[i]? = some x, fun i H v H' => ∃ T x, v = .ref T ∧ H T = none ∧ H' = upd H T (.tup [.int (i : Nat), x]) ∧ ∀ xs, SqT K H a xs → xs[i]? = some x, fun i H => ∃ xs : List V, SqT K H a xs ∧ xs.length ≤ i⟩
theorem turn_enumT {P : Program} {w : World} {K : PySem.W.Frag} {elts : List Expr} {kk : Nat} {tpos : Pos} (a e it : Addr) :
    Turn P w K (.Tuple elts kk tpos) (IteT K a) [e, it] e (fun i h => (∃ old, IsEnum h e it ((i : Nat) : Int) old) ∧ h.IsTupleIter it a i ∧ e ≠ it ∧ a ≠ it ∧ a ≠ e) where
  mem := by simp
  obj := fun i h st b hb => by
    obtain ⟨⟨old, he⟩, ⟨o, ho, oc, od⟩, _⟩ := st
    rcases (show b = e ∨ b = it by simpa using hb) with rfl | rfl
    · exact ⟨_, he, fun v q => nomatch q⟩
    · exact ⟨o, ho, fun v q => by rw [od] at q; cases q⟩
  keep := fun i h h' st k => let ⟨⟨old, he⟩, hi, r⟩ := st; ⟨⟨old, k e (by simp) _ he⟩, hi.at fun o q => k it (by simp) o q, r⟩
  item := by
    intro X hP hw hK hc i pins s σ H E I hf st hg
    subst hP hw hK
    obtain ⟨⟨old, he⟩, hit, nei, nai, nae⟩ := st
    obtain ⟨xs, x, sq, gx⟩ := hg
    obtain ⟨its, rv, tp, _⟩ := I.tuple sq
    obtain ⟨u, gu, ru⟩ := rv.get gx
    have eb : e < s.heap.objs.size := Heap.lt_size he
    have ib : it < s.heap.objs.size := by obtain ⟨_, q, _⟩ := hit; exact Heap.lt_size q
    have ub : i < its.toArray.size := by simpa using (List.getElem?_eq_some_iff.mp gu).1
    refine wpAny_pyNext_enum_itemD (Draws.tuple (A := X.A.in1) (I.ok.hd hc) it a nai its.toArray) he ⟨hit, tp⟩ ub nei (by simp [nei, nae.symm]) (fun y h' tk gy ho st' hT hsz hk => ?_)
    have ey : y = u := by
      have z : its[i]? = some y := by simpa using gy
      rw [gu] at z; cases z; rfl
    subst ey
    refine ⟨_, rfl, wpAny_letOwnedTupleGo_enum (s := { s with heap := h', toks := tk + 1 }) ho fun h2 he2 sb => ?_⟩
    have hT2 : h2.get? s.heap.objs.size = some { cls := .type "tuple", data := .seq #[.int i tk, y] } := (sb.2 _ (Nat.ne_of_gt eb)).trans hT
    have ob : ObjOk X.prog X.w (upd H s.heap.objs.size (.tup [.int (i : Nat), x])) h2 s.heap.objs.size (.tup [.int (i : Nat), x]) := ⟨by show 2 ≤ sizeLine; decide, [.int i tk, y], .cons ⟨_, rfl⟩ (.cons ru .nil), ⟨_, hT2, rfl, _, rfl⟩⟩
    have J : Inv X pins σ (upd H s.heap.objs.size (.tup [.int (i : Nat), x])) { s with heap := h2, toks := tk + 1 } :=
      I.turnedNew (ch := [e, it]) (fun b q hb z => (sb.2 b (fun w => hb (by simp [w]))).trans (hk b q (fun w => hb (by simp [w])) (fun w => hb (by simp [w])) z)) hf (Nat.le_refl _) ob
    refine ⟨.ref s.heap.objs.size, _, J, rfl, ⟨_, x, rfl, I.hok.fresh (Nat.le_refl _), rfl, fun ys hy => by rw [I.tuple_inj hy sq]; exact gx⟩, ⟨⟨y, ?_⟩, st'.1.at fun o q => (sb.2 it nei.symm).trans q, nei, nai, nae⟩, fun b hb => ?_⟩
    · rw [show ((i + 1 : Nat) : Int) = (i : Int) + 1 by omega]; exact he2
    · have b1 : b < s.heap.objs.size := by
        rcases (show b = e ∨ b = it by simpa using hb) with rfl | rfl
        · exact eb
        · exact ib
      rw [upd_ne (Nat.ne_of_lt b1)]
      exact (hf b hb).1
  done := by
    intro X hP hw hK hc i pins s σ H E I hf st hg
    subst hP hw hK
    obtain ⟨⟨old, he⟩, hit, nei, nai, nae⟩ := st
    obtain ⟨xs, sq, lx⟩ := hg
    obtain ⟨its, rv, tp, _⟩ := I.tuple sq
    obtain ⟨f0, f1, f2, f3, f4, f5⟩ := hf it (by simp)
    have ln := rv.length
    have D := Draws.tuple (prog := X.prog) (w := X.w) (A := X.A.in1) (I.ok.hd hc) it a nai its.toArray
    unfold pyNext
    refine wpAny_bind (wpAny_attempt (wpAny_callSpecial?_slot (name := Str.ofString "__next__") (s := s) (⟨_, he, rfl⟩ : s.TypeIs (.ref e) "enumerate") F.slot_enumerate_next (wpAny_call_entry F.slot_enumerate_next ⟨_, he, rfl⟩ F.entry_enumerate_next ?_ (F.args_enumerate_next_1 _))))
    show wpAny _ _ (field (.ref e) 2 >>= _) _ _ _
    refine wpAny_bind (wpAny_field he rfl (x := .ref it) rfl (wpAny_bind (wpAny_nextOf_tuple_end (I.ok.hd hc) hit tp (by simp; omega) fun h' x eb ⟨o, ho, oc⟩ => ?_)))
    refine wpAny_bind (wpAny_isInstance (T := "StopIteration") (b := true) ⟨o, ho, oc⟩ isSubtype_stop (wpAny_pure ⟨rfl, ?_⟩))
    exact I.turned (t' := s.toks) (fun b o hb q => eb b o hb q) f0 f1 f3 f4 f5
  self := fun A i s Q E st h => let ⟨⟨_, he⟩, _⟩ := st; wpAny_pyIter_enum he h
def iEnumT (K : PySem.W.Frag) (ta : TA) : TI := fun σ H R => ta σ H fun vs H1 => ∃ a xs, vs = [.ref a] ∧ SqT K H1 a xs ∧ R (IteT K a) H1
theorem pi_enumT {X : Cx} {e : Expr} {ta : TA} {p pos tpos : Pos} {elts : List Expr} {kk : Nat} (hg : Gl X "enumerate") (hm : X.mg "enumerate" = none) (ha : PA X [e] ta) (hs : starEach [e] X.env = [(false, eval e X.env)] := by rfl) :
    PI X (.Tuple elts kk tpos) (.Call (.Name "enumerate" p) [e] [] pos) (iEnumT X.K ta) := by
  refine ⟨fun pins s σ H R I h => Call_ (ld_blt I hg hm boot_enumerate (PyProof.Rows.callWith_type1 (thn (ha.run pos pins s σ H _ I h) fun us s1 ⟨vs, H1, I1, r1, q1⟩ => ?_) hs rfl))⟩
  obtain ⟨a, xs, rfl, sq, q⟩ := q1
  cases r1 with
  | cons r rr =>
    cases rr
    cases r
    obtain ⟨its, rv, tp, _⟩ := I1.tuple sq
    have al : a < s1.heap.objs.size := by obtain ⟨_, z, _⟩ := (id tp : Heap.IsTuple _ _ _); exact Heap.lt_size z
    refine enumCall (begins_tuple a its.toArray) tp (fun h' he hit hsz hk => wpAny_pyIter_enum he ?_)
    refine ⟨s1.heap.objs.size + 1, [s1.heap.objs.size + 1, s1.heap.objs.size], _, _, H1, rfl, I1.kept (t' := s1.toks) hk, turn_enumT a (s1.heap.objs.size + 1) s1.heap.objs.size, ⟨⟨.none, he⟩, ⟨_, hit, rfl, rfl⟩, Nat.succ_ne_self _, Nat.ne_of_lt al, Nat.ne_of_lt (Nat.lt_succ_of_lt al)⟩, fun b hb => ?_, q⟩
    have le : s1.heap.objs.size ≤ b := by
      rcases (show b = s1.heap.objs.size + 1 ∨ b = s1.heap.objs.size by simpa using hb) with z | z <;> rw [z]
      · exact Nat.le_add_right _ _
      · exact Nat.le_refl _
    exact I1.fpOk le (I1.hok.fresh le)
end Rw

namespace Rw
open PySem PySem.Spec PyProof.Rows L2
/-! ### min of a list of tuples of ints -/
def tupI (ns : List Int) : PyData := .tuple (ns.map .int)
def minL (ns : List Int) (nss : List (List Int)) : List Int := nss.foldl (fun a y => if PySem.W.listLt y a = true then y else a) ns
theorem tupI_toD (ns : List Int) : tupI ns = PySem.W.Datum.toD (⟨ns⟩ : PySem.W.Tup Int) := by
  show PyData.tuple (ns.map .int) = PyData.tuple (ns.map PySem.W.Datum.toD)
  rfl
theorem minL_fold (ns : List Int) : ∀ nss : List (List Int), (nss.map fun x => (⟨x⟩ : PySem.W.Tup Int)).foldl (fun a y => if PySem.W.listLt y.items a.items = true then y else a) ⟨ns⟩ = (⟨minL ns nss⟩ : PySem.W.Tup Int) := by
  intro nss
  unfold minL
  induction nss generalizing ns with
  | nil => rfl
  | cons y r ih =>
    rw [List.map_cons, List.foldl_cons, List.foldl_cons]
    by_cases h : PySem.W.listLt y ns = true
    · rw [if_pos h, if_pos h]; exact ih y
    · rw [if_neg h, if_neg h]; exact ih ns
theorem minD_minL (ns : List Int) (nss : List (List Int)) : PySem.W.minD (tupI ns) (nss.map tupI) = tupI (minL ns nss) := by
  have e : nss.map tupI = (nss.map fun x => (⟨x⟩ : PySem.W.Tup Int)).map PySem.W.Datum.toD := by
    rw [List.map_map]; exact List.map_congr_left fun x _ => tupI_toD x
  rw [tupI_toD, e, PySem.W.minD_map, tupI_toD]
  exact congrArg PySem.W.Datum.toD (minL_fold ns nss)
theorem minL_mem (ns : List Int) : ∀ nss : List (List Int), minL ns nss ∈ ns :: nss := by
  intro nss
  unfold minL
  induction nss generalizing ns with
  | nil => exact List.mem_cons_self
  | cons y r ih =>
    rw [List.foldl_cons]
    by_cases h : PySem.W.listLt y ns = true
    · rw [if_pos h]; exact List.mem_cons_of_mem _ (ih y)
    · rw [if_neg h]
      rcases List.mem_cons.mp (ih ns) with e | e
      · rw [e]; exact List.mem_cons_self
      · exact List.mem_cons_of_mem _ (List.mem_cons_of_mem _ e)
theorem lt_head {a b : Int} {x y : List Int} : (PySem.W.listLt (a :: x) (b :: y) = true → a ≤ b) ∧ (¬ PySem.W.listLt (a :: x) (b :: y) = true → b ≤ a) := by
  have u : PySem.W.listLt (a :: x) (b :: y) = if a = b then PySem.W.listLt x y else PySem.W.DatumOrd.lt a b := rfl
  have v : PySem.W.DatumOrd.lt a b = decide (a < b) := rfl
  rw [u, v]
  by_cases h : a = b
  · rw [if_pos h]; exact ⟨fun _ => by omega, fun _ => by omega⟩
  · rw [if_neg h]; exact ⟨fun z => by have := of_decide_eq_true z; omega, fun z => by have := of_decide_eq_false (Bool.eq_false_iff.mpr z); omega⟩
theorem minL_head : ∀ (nss : List (List Int)) (ns : List Int), (∀ y ∈ ns :: nss, y ≠ []) → ∀ y ∈ ns :: nss, (minL ns nss).headD 0 ≤ y.headD 0 := by
  intro nss
  unfold minL
  induction nss with
  | nil => intro ns _ y hy; rw [List.mem_singleton.mp hy]; exact Int.le_refl _
  | cons z r ih =>
    intro ns hn y hy
    rw [List.foldl_cons]
    have n1 := hn ns List.mem_cons_self
    have n2 := hn z (List.mem_cons_of_mem _ List.mem_cons_self)
    have hr : ∀ q ∈ r, q ≠ [] := fun q m => hn q (List.mem_cons_of_mem _ (List.mem_cons_of_mem _ m))
    obtain ⟨a, x, rfl⟩ := List.exists_cons_of_ne_nil n1
    obtain ⟨b, w, rfl⟩ := List.exists_cons_of_ne_nil n2
    by_cases h : PySem.W.listLt (b :: w) (a :: x) = true
    · rw [if_pos h]
      have k := ih (b :: w) (fun q m => (List.mem_cons.mp m).elim (fun e => by rw [e]; exact n2) (hr q))
      rcases List.mem_cons.mp hy with rfl | hy
      · exact Int.le_trans (k _ List.mem_cons_self) (lt_head.1 h)
      · exact k y hy
    · rw [if_neg h]
      have k := ih (a :: x) (fun q m => (List.mem_cons.mp m).elim (fun e => by rw [e]; exact n1) (hr q))
      rcases List.mem_cons.mp hy with rfl | hy
      · exact k _ List.mem_cons_self
      · rcases List.mem_cons.mp hy with rfl | hy
        · exact Int.le_trans (k _ List.mem_cons_self) (lt_head.2 h)
        · exact k y (List.mem_cons_of_mem _ hy)
theorem tupI_lay : ∀ ns : List Int, PyData.canLayAll0 (ns.map .int) = true
  | [] => by simp [PyData.canLayAll0]
  | n :: ns => by rw [List.map_cons]; simp only [PyData.canLayAll0, PyData.canLay0, tupI_lay ns, Bool.and_true]
theorem tupI_depths : ∀ ns : List Int, PyData.depthAll (ns.map .int) = 0
  | [] => by simp [PyData.depthAll]
  | n :: ns => by rw [List.map_cons]; simp [PyData.depthAll, PyData.depth, tupI_depths ns]
theorem tupI_depth : ∀ nss : List (List Int), PyData.depthAll (nss.map tupI) ≤ 1
  | [] => by simp [PyData.depthAll]
  | n :: ns => by
    have := tupI_depth ns
    rw [List.map_cons]
    show max (PyData.depth (.tuple (n.map .int))) (PyData.depthAll (ns.map tupI)) ≤ 1
    have e : PyData.depth (.tuple (n.map .int)) ≤ 1 := by simp [PyData.depth, tupI_depths n]
    omega
theorem tupI_alike (nss : List (List Int)) : PySem.W.AlikeAll (nss.map tupI) := by
  refine ⟨fun x hx y hy => ?_, fun x hx e => ?_⟩
  · obtain ⟨a, _, rfl⟩ := List.mem_map.mp hx
    obtain ⟨b, _, rfl⟩ := List.mem_map.mp hy
    rw [tupI_toD, tupI_toD]
    exact PySem.W.DatumOrd.alike _ _
  · obtain ⟨a, _, rfl⟩ := List.mem_map.mp hx
    cases e
def rMinT (K : PySem.W.Frag) : List V → Hp → VK → Prop := fun vs H Q => ∃ (a : Addr) (xs : List V) (ns : List Int) (nss : List (List Int)), vs = [.ref a] ∧ SqL K H a xs ∧ DpAll K H xs ((ns :: nss).map tupI) ∧
  ∀ (i : Nat) (v : V), xs[i]? = some v → (ns :: nss)[i]? = some (minL ns nss) → Q v H
theorem tupI_inj {a b : List Int} (h : tupI a = tupI b) : a = b := by
  have h2 : a.map PyData.int = b.map PyData.int := PyData.tuple.inj h
  have f : ∀ l : List Int, (l.map PyData.int).map (fun d => match d with | .int i => i | _ => 0) = l := fun l => by
    rw [List.map_map]; exact (List.map_congr_left fun _ _ => rfl).trans (List.map_id l)
  rw [← f a, ← f b, h2]
theorem reads_all_at {h : Heap} : ∀ {vs : List Value} {xs : List PyData} {as : List Addr}, ReadsAll h vs xs as → ∀ (i : Nat) (v : Value), vs[i]? = some v → ∃ d bs, xs[i]? = some d ∧ Reads h v d bs
  | _, _, _, .nil, i, v, e => by simp at e
  | _, _, _, .cons r rs, 0, v, e => by simp at e; subst e; exact ⟨_, _, rfl, r⟩
  | _, _, _, .cons r rs, i + 1, v, e => by
    obtain ⟨d, bs, h1, h2⟩ := reads_all_at rs i v (by simpa using e)
    exact ⟨d, bs, by simpa using h1, h2⟩
theorem vals_at : ∀ {xs : List V} {us : List Value}, Vals xs us → ∀ (i : Nat) (u : Value), us[i]? = some u → ∃ x, xs[i]? = some x ∧ RelV x u
  | _, _, .nil, i, u, e => by simp at e
  | _, _, .cons r rs, 0, u, e => by simp at e; subst e; exact ⟨_, rfl, r⟩
  | _, _, .cons r rs, i + 1, u, e => by
    obtain ⟨x, h1, h2⟩ := vals_at rs i u (by simpa using e)
    exact ⟨x, by simpa using h1, h2⟩
theorem cr_minT {X : Cx} (hc : X.calm = true) (hu : X.A.units + 10 < cLine) : CallR X (.builtin "min") (rMinT X.K) := by
  intro pins s σ H vs us Q I r h
  obtain ⟨a, xs, ns, nss, rfl, sq, dp, q⟩ := h
  obtain ⟨its, rv, hl, _⟩ := I.list sq
  rw [Vals.ref1 r]
  obtain ⟨as, rd⟩ := Dp.readsAll I _ _ its dp rv
  have dd := tupI_depth (ns :: nss)
  have al := tupI_alike (ns :: nss)
  rw [List.map_cons] at rd dd al
  refine PySem.W.min_list_data (I.ok.hd hc) hl.isList (x := tupI ns) (xs := nss.map tupI) (as := as) rd al (by omega) (fun i v h' tk bs gi rv' kp => ?_)
  rw [minD_minL] at rv'
  have gi' : its[i]? = some v := by simpa using gi
  obtain ⟨x, gx, rx⟩ := vals_at rv i v gi'
  obtain ⟨d, cs, gd, rdd⟩ := reads_all_at rd i v gi'
  have rdd' : Reads h' v d cs := PySem.W.reads_keeps kp rdd
  obtain ⟨m, gm, em⟩ : ∃ m, (ns :: nss)[i]? = some m ∧ d = tupI m := by
    have z : ((ns :: nss).map tupI)[i]? = some d := by rw [List.map_cons]; exact gd
    rw [List.getElem?_map] at z
    obtain ⟨m, z1, z2⟩ := Option.map_eq_some_iff.mp z
    exact ⟨m, z1, z2.symm⟩
  have e : tupI (minL ns nss) = d := (rv'.unique _ _ rdd').1
  rw [em] at e
  have e2 := tupI_inj e
  exact ⟨x, H, I.kept (t' := tk) kp, rx, q i x gx (by rw [gm, e2])⟩
end Rw

namespace Rw
open PySem PySem.Spec PyProof.Rows L2
/-! rules that name the written part by a letter (within comprehensions) -/
section
variable {X : Cx} {K : PySem.W.Frag}
theorem ix_tupK (h : X.K = K) : IxR X (rIxT K) := by subst h; exact ix_tup
theorem sl_tupK (h : X.K = K) : SlR X (rSlT K) := by subst h; exact sl_tup
theorem sl_listK (h : X.K = K) : SlR X (rSlL K) := by subst h; exact sl_list
theorem pg_tupK {es : List Expr} {k n : Nat} {t : TGs} {pos : Pos} (h : X.K = K) (hc : X.calm = true) (hg : PGs X es t) (hn : (assignEach es X.env).length = n := by rfl) (hst : (assignEach es X.env).findIdx? (·.1) = none := by rfl) : PG X (.Tuple es k pos) (gTup K n t) := by
  subst h; exact pg_tup hc hg hn hst
theorem pi_listK {tg l : Expr} {tl : TE} (h : X.K = K) (hl : PE X l tl) : PI X tg l (iList K tl) := by subst h; exact pi_list hl
theorem pi_tupK {tg l : Expr} {tl : TE} (h : X.K = K) (hl : PE X l tl) : PI X tg l (iTup K tl) := by subst h; exact pi_tup hl
theorem pe_fldK {e : Expr} {f : Str} {ta : TE} {pos : Pos} (h : X.K = K) (he : PE X e ta) (hb : attributeBase e f X.env (eval e X.env) = eval e X.env) : PE X (.Attribute e f pos) (tFld K ta f) := by subst h; exact pe_fld he hb
theorem call_len_seqK (h : X.K = K) : CallR X (.builtin "len") (fun xs H Q => ∃ p ys, xs = [.ref p] ∧ (SqL K H p ys ∨ SqT K H p ys) ∧ Q (.int ys.length) H) := by subst h; exact call_len_seq
end
end Rw

namespace Rw
open PySem PySem.Spec PyProof.Rows L2
/-! ### {t: v}, the key a tuple -/
def tDispT (trs : List (TE × TE)) : TE := fun σ H Q => ∀ p, H p = none → tPairs trs σ (upd H p (.dT [])) fun ps H2 => H2 p = some (.dT []) ∧ ∃ (b : Addr) (k : List Key) (v : V), ps = [(.ref b, v)] ∧ H2 b = some (.tup (k.map kV)) ∧ Q (.ref p) (upd H2 p (.dT [(k, v)]))
theorem pe_dispT {X : Cx} {pos : Pos} {k v : Expr} {trs : List (TE × TE)} (hu : X.A.units + 1 < cLine) (h : PPs X pos [some k] [v] trs) : PE X (.Dict [some k] [v] pos) (tDispT trs) := by
  refine ⟨fun pins s σ H Q I q => ?_⟩
  have nw := I.hok.fresh (Nat.le_refl s.heap.objs.size)
  have I1 := I.laid (a := s.heap.objs.size) (o := .dT []) (h' := s.heap.push { cls := .type "dict", data := .dict #[] }) (t' := s.toks) (fun _ _ z => Heap.get?_push_of_some _ z) (Nat.le_refl _) (dt_empty s.heap I.big)
  have one : (pairTrees [some k] [v] X.env pos).length = 1 := pairTrees_length [some k] [v] X.env pos rfl rfl
  have ne : pairTrees [some k] [v] X.env pos ≠ [] := fun z => by rw [z] at one; cases one
  rw [arm_eval_Dict, zip_pairTrees [some k] [v] X.env pos rfl rfl, dictDisplay_pairs _ ne (by omega)]
  refine wpAny_bind (wpAny_standAt (wpAny_bind (wpAny_subDictH (knd := tupleKind (mixKind X.prog X.w)) (show X.A.units < cLine by omega) (by omega) (thn (h.run pins _ σ _ _ I1 (q _ nw)) fun ws s2 ⟨ps, H2, I2, rel, e, b, kk, y, eps, eb, q2⟩ => ?_))))
  subst eps
  cases rel with
  | @cons p1 w1 _ ws' hp hr =>
    cases hr
    obtain ⟨wk, wv⟩ := w1
    obtain ⟨rk, rv⟩ := hp
    cases (show wk = Value.ref b from rk)
    obtain ⟨z, hd, xs, rx, dd⟩ := dt_of I2.hok e
    cases rx
    refine ⟨[(kk, b, wv)], ⟨rfl, rfl, key_of I2.hok eb, trivial⟩, dd, fun h' tk dd' hs => wpAny_pure ⟨.ref s.heap.objs.size, _, ?_, rfl, q2⟩⟩
    obtain ⟨o, es, ep, ho, h2, h3, h4, _, h5⟩ := dd'
    have ebN : b ≠ s.heap.objs.size := fun c => by
      rw [c] at eb
      rw [eb] at e
      cases e
    refine d_write I2 (by rw [e]; exact True.intro) hs ⟨o, ho⟩ ⟨by show 1 ≤ sizeLine; decide, hd, [(kk, b, wv)], .cons ⟨rfl, by rw [upd_ne ebN]; exact eb, rv⟩ .nil, o, es, ep, ho, h2, h3, h4, h5⟩
end Rw

namespace Rw
open PySem PySem.Spec PyProof.Rows L2
/-! ### sorted of a list of tuples of ints, of any lengths -/
abbrev VI := V × List Int
def encVI (b : VI) : PyData := tupI b.2
def leI (a b : List Int) : Bool := !decide (b < a)
theorem dataLe_VI : PySem.W.dataLe false encVI = fun a b => leI a.2 b.2 := by
  funext a b
  rw [PySem.W.dataLe_eq]
  show (!PySem.W.dataLt (.tuple (b.2.map .int)) (.tuple (a.2.map .int))) = _
  rw [PySem.W.dataLt_tuple]
  unfold leI
  exact congrArg _ (PySem.W.dataLt_ints b.2 a.2)
def sortVI (bs : List VI) : List VI := bs.mergeSort (fun a b => leI a.2 b.2)
theorem each_vals : ∀ {bs : List VI} {us : List Value}, Vals (bs.map (·.1)) us → PySem.W.EachIs (fun u b => RelV b.1 u) us bs
  | [], _, h => by cases h; exact .nil
  | b :: bs, _, h => by
    cases h with
    | cons r t => exact .cons r (each_vals t)
theorem vals_each : ∀ {bs : List VI} {us : List Value}, PySem.W.EachIs (fun u b => RelV b.1 u) us bs → Vals (bs.map (·.1)) us
  | _, _, .nil => .nil
  | _, _, .cons r t => .cons r (vals_each t)
theorem each_reads {h : Heap} : ∀ {bs : List VI} {us : List Value} {as : List Addr}, ReadsAll h us (bs.map encVI) as → PySem.W.EachIs (fun u b => ∃ as, Reads h u (encVI b) as) us bs
  | [], _, _, h => by cases h; exact .nil
  | b :: bs, _, _, h => by
    cases h with
    | cons r t => exact .cons ⟨_, r⟩ (each_reads t)
def rSortVI (K : PySem.W.Frag) : List V → Hp → VK → Prop := fun vs H Q => ∃ (a : Addr) (bs : List VI), vs = [.ref a] ∧ SqL K H a (bs.map (·.1)) ∧ DpAll K H (bs.map (·.1)) (bs.map encVI) ∧ (∀ b ∈ bs, b.2 ≠ []) ∧ bs.length ≤ 1000 ∧
  ∀ p, H p = none → Q (.ref p) (upd H p (.lst ((sortVI bs).map (·.1))))
theorem cr_sortVI {X : Cx} (hu : X.A.units + 10 < cLine) : CallR X (.builtin "sorted") (rSortVI X.K) := by
  intro pins s σ H vs us Q I r h
  obtain ⟨a, bs, rfl, sq, dp, hn, hl, q⟩ := h
  obtain ⟨its, rv, isl, _⟩ := I.list sq
  rw [Vals.ref1 r]
  obtain ⟨as, rd⟩ := Dp.readsAll I _ _ its dp rv
  refine PySem.W.sorted_data (bs := bs) (enc := encVI) (R := fun u b => RelV b.1 u) isl.isList (each_vals rv) (each_reads rd) (PySem.W.AllAlike.of fun b b' => ?_) (.inl fun d hd => ?_) (Nat.le_trans hl (small1000 (by omega))) (fun b hb => ?_) (fun out lo ho => ?_)
  · exact (tupI_alike [b.2, b'.2]).1 _ List.mem_cons_self _ (List.mem_cons_of_mem _ List.mem_cons_self)
  · obtain ⟨b, hb, rfl⟩ := List.mem_map.mp hd
    obtain ⟨x, xs, e⟩ := List.exists_cons_of_ne_nil (hn b hb)
    exact ⟨.int x, xs.map .int, by unfold encVI tupI; rw [e]; rfl⟩
  · have := tupI_depth [b.2]
    have e : PyData.depthAll ([b.2].map tupI) = max (PyData.depth (encVI b)) 0 := rfl
    omega
  · rw [dataLe_VI] at ho
    obtain ⟨ep, he⟩ := PyProof.Rows.sortedAll_at s.heap its out.toArray
    have hv : Vals ((sortVI bs).map (·.1)) out := vals_each ho
    have hlen : ((sortVI bs).map (·.1)).length ≤ sizeLine := by rw [hv.length, lo]; exact Nat.le_trans hl (small1000 (by omega))
    exact ⟨.ref _, upd H (s.heap.objs.size + 1) (.lst ((sortVI bs).map (·.1))), I.laid (t' := s.toks) (fun _ _ => PyProof.Rows.sortedAll_old) (Nat.le_succ _) ⟨hlen, out, ep, hv, by simpa using he⟩, rfl, q _ (I.hok.fresh (Nat.le_succ _))⟩
end Rw

namespace Rw
open PySem PySem.Spec PyProof.Rows L2
section
variable {X : Cx}
/-! new lists stand elsewhere than the modules' table -/
def tLstN (t : TA) : TE := fun σ H Q => t σ H fun xs H1 => xs.length ≤ sizeLine ∧ ∀ p, H1 p = none → p ≠ sysModules → Q (.ref p) (upd H1 p (.lst xs))
theorem pe_lstN {es : List Expr} {t : TA} {pos : Pos} (h : PA X es t) : PE X (.List es pos) (tLstN t) :=
  ⟨fun pins s σ H Q I hq => wpAny_List_spliced (thn (h.run pos pins s σ H _ I hq) fun us s1 ⟨xs, H1, I1, r, z, q⟩ => ⟨by rw [← r.length]; exact z,
    ⟨.ref s1.heap.objs.size, _, I1.laid (t' := s1.toks) (fun b u e => Heap.get?_push_of_some _ e) (Nat.le_refl _) (show ObjOk X.prog X.w _ _ _ (.lst xs) from ⟨z, us, 0, r, Heap.get?_push_size _ rfl⟩), rfl, q _ (I1.hok.fresh (Nat.le_refl _)) (Nat.ne_of_gt I1.big)⟩⟩)⟩
end
end Rw

namespace Rw
open PySem PySem.Spec PyProof.Rows L2
mutual
theorem Dt.dp {K : PySem.W.Frag} {av : List Addr} {H : Hp} : ∀ (d : PyData) (v : V), Dt av H v d → d.canLay0 = true → Dp K H v d
  | _, _, .non, _ => .non
  | _, _, .bl b, _ => .bl b
  | _, _, .int i, _ => .int i
  | _, _, .str x, _ => .str x
  | .list ds, _, .lst n e s, h => .lst (SqL.of e) (Dts.dp ds _ s (by simpa only [PyData.canLay0] using h))
  | .tuple ds, _, .tup n e s, h => .tup (SqT.of e) (Dts.dp ds _ s (by simpa only [PyData.canLay0] using h))
  | .dict _, _, .dct n e, h => by simp only [PyData.canLay0] at h; cases h
theorem Dts.dp {K : PySem.W.Frag} {av : List Addr} {H : Hp} : ∀ (ds : List PyData) (vs : List V), Dts av H vs ds → PyData.canLayAll0 ds = true → DpAll K H vs ds
  | [], _, .nil, _ => .nil
  | d :: ds, _, .cons x t, h => by
    simp only [PyData.canLayAll0, Bool.and_eq_true] at h
    exact .cons (Dt.dp d _ x h.1) (Dts.dp ds _ t h.2)
end
theorem lay_prs : ∀ na : List (Int × Int), PyData.canLayAll0 (na.map prD) = true
  | [] => by simp [PyData.canLayAll0]
  | p :: na => by
    have e : prD p = .tuple [.int p.1, .int p.2] := rfl
    rw [List.map_cons, e]
    simp only [PyData.canLayAll0, PyData.canLay0, lay_prs na, Bool.and_true]
theorem lay_pis : ∀ ps : List Pi, PyData.canLayAll0 (ps.map Pi.dat) = true
  | [] => by simp [PyData.canLayAll0]
  | p :: ps => by
    have e : p.dat = .tuple [.int p.x, .int p.y, .int p.l, .tuple (p.na.map prD), .tuple (p.fl.map prD)] := rfl
    rw [List.map_cons, e]
    simp only [PyData.canLayAll0, PyData.canLay0, lay_prs, lay_pis ps, Bool.and_true]
theorem shaped_of {d : PyData} (h : d.canLay0 = true) (h2 : d.depth ≤ 64) : SeqAt.shaped d = true := by
  unfold SeqAt.shaped
  rw [h, decide_eq_true h2]; rfl
theorem eqv_nil (ds : List PyData) : PyData.eqv (.tuple ds) (.tuple []) = ds.isEmpty := by
  cases ds <;> rfl
/-! ### a house as it is handed about: its two parts -/
theorem house_parts {av : List Addr} {H : Hp} {h : V} {n : Int} {ps : List PyData} (x : Dt av H h (houseD n ps)) :
    ∃ (ah ap : Addr) (xp : List V), h = .ref ah ∧ ah ∉ av ∧ H ah = some (.tup [.int n, .ref ap]) ∧ ap ∉ av ∧ H ap = some (.tup xp) ∧ Dts av H xp ps := by
  cases x with
  | tup na ea da =>
    cases da with
    | cons d1 da =>
      cases d1
      cases da with
      | cons d2 da =>
        cases da
        cases d2 with
        | tup nb eb db => exact ⟨_, _, _, rfl, na, ea, nb, eb, db⟩
/-! the pipe at a place -/
theorem pi_at {av : List Addr} {H : Hp} {xp : List V} {ps : List Pi} (hs : Dts av H xp (ps.map Pi.dat)) {i : Int} (h0 : 0 ≤ i) (h1 : i < ps.length) :
    ∃ (p : Pi) (pa T1 T2 : Addr), p ∈ ps ∧ ps[i.toNat]? = some p ∧ atI xp i = some (.ref pa) ∧ H pa = some (.tup [.int p.x, .int p.y, .int p.l, .ref T1, .ref T2]) := by
  have e : ps[i.toNat]? = some (ps[i.toNat]'(by omega)) := List.getElem?_eq_getElem (by omega)
  obtain ⟨v, ev, dv⟩ := hs.get i.toNat (d := (ps[i.toNat]'(by omega)).dat) (by rw [List.getElem?_map, e]; rfl)
  have ep : (ps[i.toNat]'(by omega)).dat = .tuple [.int (ps[i.toNat]'(by omega)).x, .int (ps[i.toNat]'(by omega)).y, .int (ps[i.toNat]'(by omega)).l, .tuple ((ps[i.toNat]'(by omega)).na.map prD), .tuple ((ps[i.toNat]'(by omega)).fl.map prD)] := rfl
  rw [ep] at dv
  cases dv with
  | tup na ea da =>
    cases da with
    | cons d1 da => cases d1; cases da with
      | cons d2 da => cases d2; cases da with
        | cons d3 da => cases d3; cases da with
          | cons d4 da => cases d4 with
            | tup _ _ _ => cases da with
              | cons d5 da => cases d5 with
                | tup _ _ _ =>
                  cases da
                  exact ⟨_, _, _, _, List.getElem_mem _, e, atI_of h0 ev, ea⟩
end Rw

namespace Rw
/-! ### places of a house, their distances -/
def pr (ps : List Pi) (i : Int) : Pi := ps.getD i.toNat default
theorem pr_mem {ps : List Pi} {i : Int} (h0 : 0 ≤ i) (h1 : i < ps.length) : pr ps i ∈ ps ∧ ps[i.toNat]? = some (pr ps i) := by
  have e : ps[i.toNat]? = some (ps[i.toNat]'(by omega)) := List.getElem?_eq_getElem (by omega)
  unfold pr
  rw [List.getD_eq_getElem?_getD, e]
  exact ⟨List.getElem_mem _, rfl⟩
theorem pr_of {ps : List Pi} {j : Nat} {p : Pi} (h : ps[j]? = some p) : pr ps (j : Int) = p := by
  unfold pr
  rw [List.getD_eq_getElem?_getD, show ((j : Int)).toNat = j by omega, h]; rfl
abbrev Pl := List Int
def okP (n : Int) (ps : List Pi) : Pl → Prop
  | [r] => 0 ≤ r ∧ r < n
  | [i, a] => 0 ≤ i ∧ i < ps.length ∧ 1 ≤ a ∧ a ≤ (pr ps i).l - 1
  | _ => False
def ab (a b : Int) : Int := if a < b then b - a else a - b
def dr (ps : List Pi) (d : Int → Int → Int) (s i a : Int) : Int := min (d s (pr ps i).x + a) (d s (pr ps i).y + ((pr ps i).l - a))
def Dp (ps : List Pi) (d : Int → Int → Int) : Pl → Pl → Int
  | [s], [t] => d s t
  | [s], [i, a] => dr ps d s i a
  | [i, a], [s] => dr ps d s i a
  | [i, a], [j, b] => if i = j then ab a b else min (a + dr ps d (pr ps i).x j b) ((pr ps i).l - a + dr ps d (pr ps i).y j b)
  | _, _ => 0
def nm (ps : List Pi) (i a : Int) : Pl := if a = 0 then [(pr ps i).x] else if a = (pr ps i).l then [(pr ps i).y] else [i, a]
def Adj (ps : List Pi) (p q : Pl) : Prop := ∃ i a : Int, 0 ≤ i ∧ i < ps.length ∧ 0 ≤ a ∧ a < (pr ps i).l ∧ ((p = nm ps i a ∧ q = nm ps i (a + 1)) ∨ (q = nm ps i a ∧ p = nm ps i (a + 1)))
theorem Adj.symm {ps : List Pi} {p q : Pl} (h : Adj ps p q) : Adj ps q p := by
  obtain ⟨i, a, h1, h2, h3, h4, h5⟩ := h
  exact ⟨i, a, h1, h2, h3, h4, h5.symm⟩
theorem ok_cases {n : Int} {ps : List Pi} {p : Pl} (h : okP n ps p) : (∃ r, p = [r] ∧ 0 ≤ r ∧ r < n) ∨ ∃ i a, p = [i, a] ∧ 0 ≤ i ∧ i < ps.length ∧ 1 ≤ a ∧ a ≤ (pr ps i).l - 1 := by
  match p, h with
  | [r], h => exact .inl ⟨r, rfl, h⟩
  | [i, a], h => exact .inr ⟨i, a, rfl, h⟩
/-! how a source is seen along a pipe: its foot -/
def foot1 (ps : List Pi) (d : Int → Int → Int) (r i : Int) : Int := if d r (pr ps i).y = d r (pr ps i).x + (pr ps i).l then 0 else (pr ps i).l
def foot (ps : List Pi) (d : Int → Int → Int) : Pl → Int → Int
  | [r], i => foot1 ps d r i
  | [j, b], i => if j = i then b else if d (pr ps j).x (pr ps i).x < d (pr ps j).y (pr ps i).x then foot1 ps d (pr ps j).x i else foot1 ps d (pr ps j).y i
  | _, _ => 0
section
variable {n : Int} {ps : List Pi} {d : Int → Int → Int} (T : Tm n ps d)
include T
theorem Tm.at {i : Int} (h0 : 0 ≤ i) (h1 : i < ps.length) : 0 ≤ (pr ps i).x ∧ (pr ps i).x < n ∧ 0 ≤ (pr ps i).y ∧ (pr ps i).y < n ∧ 1 ≤ (pr ps i).l := T.ok _ (pr_mem h0 h1).1
theorem Tm.stp {i s : Int} (h0 : 0 ≤ i) (h1 : i < ps.length) (s0 : 0 ≤ s) (s1 : s < n) : d s (pr ps i).x = d s (pr ps i).y + (pr ps i).l ∨ d s (pr ps i).y = d s (pr ps i).x + (pr ps i).l := T.step _ (pr_mem h0 h1).1 s s0 s1
theorem Tm.own {i : Int} (h0 : 0 ≤ i) (h1 : i < ps.length) : d (pr ps i).x (pr ps i).y = (pr ps i).l ∧ d (pr ps i).y (pr ps i).x = (pr ps i).l ∧ (pr ps i).x ≠ (pr ps i).y := by
  obtain ⟨a1, a2, a3, a4, a5⟩ := T.at h0 h1
  have e1 := T.stp h0 h1 a1 a2
  have e2 := T.sym (pr ps i).x (pr ps i).y
  have e3 := T.zero (pr ps i).x
  have e4 := T.nn a1 a2 a3 a4
  refine ⟨by omega, by omega, fun z => ?_⟩
  rw [← z] at e1
  omega
theorem Tm.sd {i j : Int} (h0 : 0 ≤ i) (h1 : i < ps.length) (k0 : 0 ≤ j) (k1 : j < ps.length) (ne : j ≠ i) :
    d (pr ps j).x (pr ps i).x - d (pr ps j).y (pr ps i).x = d (pr ps j).x (pr ps i).y - d (pr ps j).y (pr ps i).y :=
  T.side j.toNat i.toNat _ _ (by omega) (pr_mem k0 k1).2 (pr_mem h0 h1).2
theorem foot1_at {i r : Int} (h0 : 0 ≤ i) (h1 : i < ps.length) (r0 : 0 ≤ r) (r1 : r < n) {a : Int} (a0 : 0 ≤ a) (a1 : a ≤ (pr ps i).l) :
    dr ps d r i a = dr ps d r i (foot1 ps d r i) + ab a (foot1 ps d r i) ∧ (foot1 ps d r i = 0 ∨ foot1 ps d r i = (pr ps i).l) := by
  have l1 := (T.at h0 h1).2.2.2.2
  have st := T.stp h0 h1 r0 r1
  unfold dr foot1 ab
  by_cases u : d r (pr ps i).y = d r (pr ps i).x + (pr ps i).l
  · rw [if_pos u]; refine ⟨?_, .inl rfl⟩; split <;> omega
  · rw [if_neg u]; refine ⟨?_, .inr rfl⟩; split <;> omega
theorem dr_0 {i r : Int} (h0 : 0 ≤ i) (h1 : i < ps.length) (r0 : 0 ≤ r) (r1 : r < n) : dr ps d r i 0 = d r (pr ps i).x ∧ dr ps d r i (pr ps i).l = d r (pr ps i).y := by
  have l1 := (T.at h0 h1).2.2.2.2
  have st := T.stp h0 h1 r0 r1
  unfold dr; omega
/-! along a pipe, from a room -/
theorem Dp_room {i r : Int} (h0 : 0 ≤ i) (h1 : i < ps.length) (r0 : 0 ≤ r) (r1 : r < n) (a : Int) : Dp ps d [r] (nm ps i a) = dr ps d r i a := by
  unfold nm
  by_cases e : a = 0
  · rw [if_pos e, e]; exact (dr_0 T h0 h1 r0 r1).1.symm
  · rw [if_neg e]
    by_cases f : a = (pr ps i).l
    · rw [if_pos f, f]; exact (dr_0 T h0 h1 r0 r1).2.symm
    · rw [if_neg f]; rfl
/-! along a pipe, from a place of it -/
theorem Dp_same {i b : Int} (h0 : 0 ≤ i) (h1 : i < ps.length) (b0 : 1 ≤ b) (b1 : b ≤ (pr ps i).l - 1) (a : Int) : Dp ps d [i, b] (nm ps i a) = ab b a := by
  obtain ⟨o1, o2, o3⟩ := T.own h0 h1
  have z1 := T.zero (pr ps i).x
  have z2 := T.zero (pr ps i).y
  unfold nm
  by_cases e : a = 0
  · rw [if_pos e, e]; show dr ps d (pr ps i).x i b = _; unfold dr ab; split <;> omega
  · rw [if_neg e]
    by_cases f : a = (pr ps i).l
    · rw [if_pos f, f]; show dr ps d (pr ps i).y i b = _; unfold dr ab; split <;> omega
    · rw [if_neg f]; show (if i = i then ab b a else _) = _; rw [if_pos rfl]
/-! along a pipe, from a place of another one: as from the room on this side -/
theorem Dp_else {i j b : Int} (h0 : 0 ≤ i) (h1 : i < ps.length) (k0 : 0 ≤ j) (k1 : j < ps.length) (ne : j ≠ i) (b0 : 1 ≤ b) (b1 : b ≤ (pr ps j).l - 1) (a : Int) (a0 : 0 ≤ a) (a1 : a ≤ (pr ps i).l) :
    Dp ps d [j, b] (nm ps i a) = if d (pr ps j).x (pr ps i).x < d (pr ps j).y (pr ps i).x then b + dr ps d (pr ps j).x i a else (pr ps j).l - b + dr ps d (pr ps j).y i a := by
  obtain ⟨x0, x1, y0, y1, l1⟩ := T.at h0 h1
  obtain ⟨u0, u1, v0, v1, m1⟩ := T.at k0 k1
  have sd := T.sd h0 h1 k0 k1 ne
  have s1 := T.stp k0 k1 x0 x1
  have s2 := T.stp k0 k1 y0 y1
  rw [T.sym _ (pr ps j).x, T.sym _ (pr ps j).y] at s1 s2
  have t1 := T.stp h0 h1 u0 u1
  have t2 := T.stp h0 h1 v0 v1
  have main : min (b + dr ps d (pr ps j).x i a) ((pr ps j).l - b + dr ps d (pr ps j).y i a) = if d (pr ps j).x (pr ps i).x < d (pr ps j).y (pr ps i).x then b + dr ps d (pr ps j).x i a else (pr ps j).l - b + dr ps d (pr ps j).y i a := by
    unfold dr
    split <;> omega
  rw [← main]
  unfold nm
  by_cases e : a = 0
  · rw [if_pos e, e, (dr_0 T h0 h1 u0 u1).1, (dr_0 T h0 h1 v0 v1).1]
    show dr ps d (pr ps i).x j b = _
    unfold dr
    rw [T.sym _ (pr ps j).x, T.sym _ (pr ps j).y]
    omega
  · rw [if_neg e]
    by_cases f : a = (pr ps i).l
    · rw [if_pos f, f, (dr_0 T h0 h1 u0 u1).2, (dr_0 T h0 h1 v0 v1).2]
      show dr ps d (pr ps i).y j b = _
      unfold dr
      rw [T.sym _ (pr ps j).x, T.sym _ (pr ps j).y]
      omega
    · rw [if_neg f]
      show (if j = i then ab b a else _) = _
      rw [if_neg ne]
theorem foot_at {s : Pl} (hs : okP n ps s) {i : Int} (h0 : 0 ≤ i) (h1 : i < ps.length) : 0 ≤ foot ps d s i ∧ foot ps d s i ≤ (pr ps i).l ∧ (0 < foot ps d s i → foot ps d s i < (pr ps i).l → s = [i, foot ps d s i]) ∧
    ∀ a, 0 ≤ a → a ≤ (pr ps i).l → Dp ps d s (nm ps i a) = Dp ps d s (nm ps i (foot ps d s i)) + ab a (foot ps d s i) := by
  have l1 := (T.at h0 h1).2.2.2.2
  rcases ok_cases hs with ⟨r, rfl, r0, r1⟩ | ⟨j, b, rfl, k0, k1, b0, b1⟩
  · have f := fun a => foot1_at T (a := a) h0 h1 r0 r1
    have f0 := (f 0 (by omega) (by omega)).2
    show 0 ≤ foot1 ps d r i ∧ foot1 ps d r i ≤ _ ∧ (0 < foot1 ps d r i → foot1 ps d r i < _ → _) ∧ ∀ a, _ → _ → _ = Dp ps d [r] (nm ps i (foot1 ps d r i)) + ab a (foot1 ps d r i)
    refine ⟨by omega, by omega, fun _ _ => by omega, fun a a0 a1 => ?_⟩
    rw [Dp_room T h0 h1 r0 r1, Dp_room T h0 h1 r0 r1]
    exact (f a a0 a1).1
  · by_cases e : j = i
    · subst e
      have ef : foot ps d [j, b] j = b := if_pos rfl
      rw [ef]
      refine ⟨by omega, by omega, fun _ _ => rfl, fun a a0 a1 => ?_⟩
      rw [Dp_same T h0 h1 b0 b1, Dp_same T h0 h1 b0 b1]
      unfold ab
      split <;> split <;> omega
    · obtain ⟨u0, u1, v0, v1, m1⟩ := T.at k0 k1
      by_cases c : d (pr ps j).x (pr ps i).x < d (pr ps j).y (pr ps i).x
      · have ef : foot ps d [j, b] i = foot1 ps d (pr ps j).x i := (if_neg e).trans (if_pos c)
        have f := fun a => foot1_at T (a := a) h0 h1 u0 u1
        have f0 := (f 0 (by omega) (by omega)).2
        rw [ef]
        refine ⟨by omega, by omega, fun _ _ => by omega, fun a a0 a1 => ?_⟩
        rw [Dp_else T h0 h1 k0 k1 e b0 b1 a a0 a1, Dp_else T h0 h1 k0 k1 e b0 b1 _ (by omega) (by omega), if_pos c, if_pos c]
        have := (f a a0 a1).1
        omega
      · have ef : foot ps d [j, b] i = foot1 ps d (pr ps j).y i := (if_neg e).trans (if_neg c)
        have f := fun a => foot1_at T (a := a) h0 h1 v0 v1
        have f0 := (f 0 (by omega) (by omega)).2
        rw [ef]
        refine ⟨by omega, by omega, fun _ _ => by omega, fun a a0 a1 => ?_⟩
        rw [Dp_else T h0 h1 k0 k1 e b0 b1 a a0 a1, Dp_else T h0 h1 k0 k1 e b0 b1 _ (by omega) (by omega), if_neg c, if_neg c]
        have := (f a a0 a1).1
        omega
/-! one step nearer, one step farther -/
theorem Dp_step {s : Pl} (hs : okP n ps s) {p q : Pl} (h : Adj ps p q) : Dp ps d s q = Dp ps d s p + 1 ∨ Dp ps d s p = Dp ps d s q + 1 := by
  obtain ⟨i, a, h0, h1, a0, a1, h⟩ := h
  obtain ⟨_, _, _, f⟩ := foot_at T hs h0 h1
  have e1 := f a a0 (by omega)
  have e2 := f (a + 1) (by omega) (by omega)
  unfold ab at e1 e2
  rcases h with ⟨rfl, rfl⟩ | ⟨rfl, rfl⟩ <;> (split at e1 <;> split at e2 <;> omega)
/-! a door at a room by which one comes nearer -/
theorem foot1_door {r t i : Int} (h0 : 0 ≤ i) (h1 : i < ps.length) (r0 : 0 ≤ r) (r1 : r < n) : Dn ps d r t i.toNat ↔ (((pr ps i).x = t ∧ foot1 ps d r i ≠ 0) ∨ ((pr ps i).y = t ∧ foot1 ps d r i ≠ (pr ps i).l)) := by
  have l1 := (T.at h0 h1).2.2.2.2
  have st := T.stp h0 h1 r0 r1
  constructor
  · rintro ⟨p, e, h⟩
    rw [(pr_mem h0 h1).2] at e
    cases e
    unfold foot1
    rcases h with ⟨e1, e2⟩ | ⟨e1, e2⟩
    · left; refine ⟨e1, ?_⟩; rw [← e1] at e2; rw [if_neg (by omega)]; omega
    · right; refine ⟨e1, ?_⟩; rw [← e1] at e2; rw [if_pos (by omega)]; omega
  · intro h
    refine ⟨_, (pr_mem h0 h1).2, ?_⟩
    unfold foot1 at h
    rcases h with ⟨e1, e2⟩ | ⟨e1, e2⟩
    · left; refine ⟨e1, ?_⟩
      by_cases u : d r (pr ps i).y = d r (pr ps i).x + (pr ps i).l
      · rw [if_pos u] at e2; exact absurd rfl e2
      · rw [← e1]; omega
    · right; refine ⟨e1, ?_⟩
      by_cases u : d r (pr ps i).y = d r (pr ps i).x + (pr ps i).l
      · rw [← e1]; omega
      · rw [if_neg u] at e2; exact absurd rfl e2
/-! a room on the one side of a pipe: its doors are seen from that side's room -/
theorem foot_side {j b t : Int} (k0 : 0 ≤ j) (k1 : j < ps.length) (b0 : 1 ≤ b) (b1 : b ≤ (pr ps j).l - 1) (t0 : 0 ≤ t) (t1 : t < n) :
    ∃ c, (c = (pr ps j).x ∨ c = (pr ps j).y) ∧ 0 ≤ c ∧ c < n ∧
      (∀ i : Int, 0 ≤ i → i < ps.length → ((pr ps i).x = t ∨ (pr ps i).y = t) → i ≠ j → foot ps d [j, b] i = foot1 ps d c i) ∧
      ((pr ps j).x = t → c = t) ∧ ((pr ps j).y = t → c = t) := by
  obtain ⟨u0, u1, v0, v1, m1⟩ := T.at k0 k1
  obtain ⟨o1, o2, o3⟩ := T.own k0 k1
  have zx := T.zero (pr ps j).x
  have zy := T.zero (pr ps j).y
  by_cases c : d (pr ps j).x t < d (pr ps j).y t
  · refine ⟨(pr ps j).x, .inl rfl, u0, u1, fun i h0 h1 ht ne => ?_, fun e => e, fun e => ?_⟩
    · have sd := T.sd h0 h1 k0 k1 (Ne.symm ne)
      have c' : d (pr ps j).x (pr ps i).x < d (pr ps j).y (pr ps i).x := by rcases ht with e | e <;> rw [← e] at c <;> omega
      exact (if_neg (Ne.symm ne)).trans (if_pos c')
    · rw [← e] at c; omega
  · refine ⟨(pr ps j).y, .inr rfl, v0, v1, fun i h0 h1 ht ne => ?_, fun e => ?_, fun e => e⟩
    · have sd := T.sd h0 h1 k0 k1 (Ne.symm ne)
      have c' : ¬ d (pr ps j).x (pr ps i).x < d (pr ps j).y (pr ps i).x := by rcases ht with e | e <;> rw [← e] at c <;> omega
      exact (if_neg (Ne.symm ne)).trans (if_neg c')
    · rw [← e] at c; omega
/-! at a room that isn't the source there is just one such door -/
def Door (ps : List Pi) (d : Int → Int → Int) (s : Pl) (t i : Int) : Prop := 0 ≤ i ∧ i < ps.length ∧ (((pr ps i).x = t ∧ foot ps d s i ≠ 0) ∨ ((pr ps i).y = t ∧ foot ps d s i ≠ (pr ps i).l))
theorem own_foot {c i : Int} (h0 : 0 ≤ i) (h1 : i < ps.length) (c0 : 0 ≤ c) (c1 : c < n) : ((pr ps i).x = c → foot1 ps d c i = 0) ∧ ((pr ps i).y = c → foot1 ps d c i = (pr ps i).l) := by
  obtain ⟨x0, x1, y0, y1, l1⟩ := T.at h0 h1
  obtain ⟨o1, o2, o3⟩ := T.own h0 h1
  have zx := T.zero (pr ps i).x
  have zy := T.zero (pr ps i).y
  unfold foot1
  exact ⟨fun e => by rw [← e, if_pos (by omega)], fun e => by rw [← e, if_neg (by omega)]⟩
theorem door_ex {s : Pl} (hs : okP n ps s) {t : Int} (t0 : 0 ≤ t) (t1 : t < n) (ne : s ≠ [t]) : ∃ i, Door ps d s t i := by
  rcases ok_cases hs with ⟨r, rfl, r0, r1⟩ | ⟨j, b, rfl, k0, k1, b0, b1⟩
  · obtain ⟨i, p, e, h⟩ := T.par r t r0 r1 t0 t1 (fun z => ne (by rw [z]))
    have hi : i < ps.length := (List.getElem?_eq_some_iff.mp e).1
    refine ⟨(i : Int), by omega, by omega, ?_⟩
    exact (foot1_door T (by omega) (by omega) r0 r1).mp ⟨p, by rw [show ((i : Int)).toNat = i by omega]; exact e, h⟩
  · obtain ⟨c, hc, c0, c1, hf, ex, ey⟩ := foot_side T k0 k1 b0 b1 t0 t1
    have ej : foot ps d [j, b] j = b := if_pos rfl
    by_cases z : c = t
    · subst z
      rcases hc with e | e
      · exact ⟨j, k0, k1, .inl ⟨e.symm, by rw [ej]; omega⟩⟩
      · exact ⟨j, k0, k1, .inr ⟨e.symm, by rw [ej]; omega⟩⟩
    · obtain ⟨i, p, e, h⟩ := T.par c t c0 c1 t0 t1 z
      have hi : i < ps.length := (List.getElem?_eq_some_iff.mp e).1
      have dd := (foot1_door T (t := t) (i := (i : Int)) (by omega) (by omega) c0 c1).mp ⟨p, by rw [show ((i : Int)).toNat = i by omega]; exact e, h⟩
      have nj : (i : Int) ≠ j := fun w => by
        rw [w] at dd
        rcases dd with ⟨e1, _⟩ | ⟨e1, _⟩
        · exact z (ex e1)
        · exact z (ey e1)
      refine ⟨(i : Int), by omega, by omega, ?_⟩
      rw [hf i (by omega) (by omega) (dd.elim (fun q => .inl q.1) (fun q => .inr q.1)) nj]
      exact dd
theorem door_uni {s : Pl} (hs : okP n ps s) {t : Int} (t0 : 0 ≤ t) (t1 : t < n) {i i' : Int} (h : Door ps d s t i) (h' : Door ps d s t i') : i = i' := by
  obtain ⟨h0, h1, h2⟩ := h
  obtain ⟨g0, g1, g2⟩ := h'
  rcases ok_cases hs with ⟨r, rfl, r0, r1⟩ | ⟨j, b, rfl, k0, k1, b0, b1⟩
  · have := T.uni r t i.toNat i'.toNat r0 r1 t0 t1 ((foot1_door T h0 h1 r0 r1).mpr h2) ((foot1_door T g0 g1 r0 r1).mpr g2)
    omega
  · obtain ⟨c, hc, c0, c1, hf, ex, ey⟩ := foot_side T k0 k1 b0 b1 t0 t1
    have self : ∀ k : Int, 0 ≤ k → k < ps.length → (((pr ps k).x = t ∧ foot ps d [j, b] k ≠ 0) ∨ ((pr ps k).y = t ∧ foot ps d [j, b] k ≠ (pr ps k).l)) → k ≠ j → c ≠ t ∧ Dn ps d c t k.toNat := by
      intro k p0 p1 p2 nk
      rw [hf k p0 p1 (p2.elim (fun q => .inl q.1) (fun q => .inr q.1)) nk] at p2
      refine ⟨fun z => ?_, (foot1_door T p0 p1 c0 c1).mpr p2⟩
      have o := own_foot T p0 p1 c0 c1
      rcases p2 with ⟨e1, e2⟩ | ⟨e1, e2⟩
      · exact e2 (o.1 (by rw [e1, z]))
      · exact e2 (o.2 (by rw [e1, z]))
    have atj : (((pr ps j).x = t ∧ foot ps d [j, b] j ≠ 0) ∨ ((pr ps j).y = t ∧ foot ps d [j, b] j ≠ (pr ps j).l)) → c = t := fun q => q.elim (fun z => ex z.1) (fun z => ey z.1)
    by_cases e : i = j
    · by_cases e' : i' = j
      · rw [e, e']
      · rw [e] at h2
        exact absurd (atj h2) (self i' g0 g1 g2 e').1
    · by_cases e' : i' = j
      · rw [e'] at g2
        exact absurd (atj g2) (self i h0 h1 h2 e).1
      · have := T.uni c t i.toNat i'.toNat c0 c1 t0 t1 (self i h0 h1 h2 e).2 (self i' g0 g1 g2 e').2
        omega
end
end Rw

namespace Rw
/-! ### going through a tree from a source -/
structure Sr {α : Type} (src : α) (V : α → Prop) (D : α → Int) (E : α → α → Int → Prop) : Prop where
  zero : D src = 0
  here : V src
  nn : ∀ v, V v → 0 ≤ D v
  wt : ∀ u v w, V u → E u v w → 1 ≤ w
  cl : ∀ u v w, V u → E u v w → V v
  sym : ∀ u v w, E u v w → E v u w
  step : ∀ u v w, V u → E u v w → D v = D u + w ∨ D u = D v + w
  par : ∀ v, V v → v ≠ src → ∃ u w, E v u w ∧ D v = D u + w
  uni : ∀ v u w u' w', V v → E v u w → E v u' w' → D v = D u + w → D v = D u' + w' → u = u'
/-! what was found holds with each the one nearer to the source -/
def Pard {α : Type} (src : α) (D : α → Int) (E : α → α → Int → Prop) (F : List α) : Prop := ∀ v ∈ F, v ≠ src → ∃ u ∈ F, ∃ w, E v u w ∧ D v = D u + w
theorem Sr.found {α : Type} {src : α} {V : α → Prop} {D : α → Int} {E : α → α → Int → Prop} (S : Sr src V D E) {F : List α} (P : Pard src D E F) {u v : α} {w : Int} (hu : u ∈ F) (vu : V u) (e : E u v w) (hv : v ∉ F) : D v = D u + w := by
  rcases S.step u v w vu e with h | h
  · exact h
  · have h1 := S.nn v (S.cl u v w vu e)
    have h2 := S.wt u v w vu e
    have ne : u ≠ src := fun z => by rw [z, S.zero] at h; omega
    obtain ⟨u', m, w', e', h'⟩ := P u hu ne
    have := S.uni u v w u' w' vu e e' h h'
    rw [this] at hv
    exact absurd m hv
theorem Pard.snoc {α : Type} {src : α} {D : α → Int} {E : α → α → Int → Prop} {F : List α} (P : Pard src D E F) {u v : α} {w : Int} (hu : u ∈ F) (e : E v u w) (h : D v = D u + w) : Pard src D E (F ++ [v]) := fun x hx nx => by
  rcases List.mem_append.mp hx with m | m
  · obtain ⟨y, my, r⟩ := P x m nx
    exact ⟨y, List.mem_append_left _ my, r⟩
  · rw [List.mem_singleton.mp m]
    exact ⟨u, List.mem_append_left _ hu, w, e, h⟩
theorem Sr.all {α : Type} {src : α} {V : α → Prop} {D : α → Int} {E : α → α → Int → Prop} (S : Sr src V D E) {F : List α} (h0 : src ∈ F) (hc : ∀ u ∈ F, ∀ v w, E u v w → v ∈ F) : ∀ (k : Nat) (v : α), V v → (D v).toNat < k → v ∈ F
  | 0, _, _, h => absurd h (Nat.not_lt_zero _)
  | k + 1, v, vv, h => by
    by_cases e : v = src
    · rw [e]; exact h0
    · obtain ⟨u, w, euv, hd⟩ := S.par v vv e
      have vu := S.cl v u w vv euv
      have n1 := S.nn u vu
      have n2 := S.wt v u w vv euv
      exact hc u (S.all h0 hc k u vu (by omega)) v w (S.sym v u w euv)
/-! ### rooms -/
def RE (ps : List Pi) (u v w : Int) : Prop := ∃ (i : Nat) (p : Pi), ps[i]? = some p ∧ w = p.l ∧ ((p.x = u ∧ p.y = v) ∨ (p.y = u ∧ p.x = v))
theorem Tm.rooms {n : Int} {ps : List Pi} {d : Int → Int → Int} (T : Tm n ps d) {r : Int} (r0 : 0 ≤ r) (r1 : r < n) : Sr r (fun t => 0 ≤ t ∧ t < n) (d r) (RE ps) where
  zero := T.zero r
  here := ⟨r0, r1⟩
  nn := fun v h => T.nn r0 r1 h.1 h.2
  wt := fun u v w _ ⟨i, p, e, hw, _⟩ => by rw [hw]; exact (T.ok p (List.mem_of_getElem? e)).2.2.2.2
  cl := fun u v w _ ⟨i, p, e, _, h⟩ => by
    obtain ⟨a1, a2, a3, a4, _⟩ := T.ok p (List.mem_of_getElem? e)
    rcases h with ⟨_, h⟩ | ⟨_, h⟩ <;> rw [← h]
    · exact ⟨a3, a4⟩
    · exact ⟨a1, a2⟩
  sym := fun u v w ⟨i, p, e, hw, h⟩ => ⟨i, p, e, hw, h.elim (fun z => .inr ⟨z.2, z.1⟩) (fun z => .inl ⟨z.2, z.1⟩)⟩
  step := fun u v w _ ⟨i, p, e, hw, h⟩ => by
    have s := T.step p (List.mem_of_getElem? e) r r0 r1
    rw [hw]
    rcases h with ⟨h1, h2⟩ | ⟨h1, h2⟩ <;> rw [← h1, ← h2]
    · exact s.symm
    · exact s
  par := fun v h ne => by
    obtain ⟨i, p, e, h⟩ := T.par r v r0 r1 h.1 h.2 (Ne.symm ne)
    rcases h with ⟨h1, h2⟩ | ⟨h1, h2⟩
    · exact ⟨p.y, p.l, ⟨i, p, e, rfl, .inl ⟨h1, rfl⟩⟩, h2.symm⟩
    · exact ⟨p.x, p.l, ⟨i, p, e, rfl, .inr ⟨h1, rfl⟩⟩, h2.symm⟩
  uni := fun v u w u' w' h ⟨i, p, e, hw, hp⟩ ⟨j, q, f, hv, hq⟩ h1 h2 => by
    have t1 : Dn ps (d) r v i := ⟨p, e, hp.elim (fun z => .inl ⟨z.1, by rw [z.2, ← hw]; exact h1.symm⟩) (fun z => .inr ⟨z.1, by rw [z.2, ← hw]; exact h1.symm⟩)⟩
    have t2 : Dn ps (d) r v j := ⟨q, f, hq.elim (fun z => .inl ⟨z.1, by rw [z.2, ← hv]; exact h2.symm⟩) (fun z => .inr ⟨z.1, by rw [z.2, ← hv]; exact h2.symm⟩)⟩
    have ij := T.uni r v i j r0 r1 h.1 h.2 t1 t2
    subst ij
    rw [e] at f
    cases f
    have hi : i < ps.length := (List.getElem?_eq_some_iff.mp e).1
    have o := (T.own (i := (i : Int)) (by omega) (by omega)).2.2
    rw [pr_of e] at o
    rcases hp with ⟨a1, a2⟩ | ⟨a1, a2⟩ <;> rcases hq with ⟨b1, b2⟩ | ⟨b1, b2⟩
    · rw [← a2, ← b2]
    · exact absurd (a1.trans b1.symm) o
    · exact absurd (b1.trans a1.symm) o
    · rw [← a2, ← b2]
/-! ### places -/
theorem nm_0 (ps : List Pi) (i : Int) : nm ps i 0 = [(pr ps i).x] := if_pos rfl
theorem nm_l {ps : List Pi} {i : Int} (h : (pr ps i).l ≠ 0) : nm ps i (pr ps i).l = [(pr ps i).y] := (if_neg h).trans (if_pos rfl)
theorem nm_mid {ps : List Pi} {i a : Int} (h : a ≠ 0) (h2 : a ≠ (pr ps i).l) : nm ps i a = [i, a] := (if_neg h).trans (if_neg h2)
theorem nm_two {ps : List Pi} {i a j b : Int} (h : nm ps i a = [j, b]) : i = j ∧ a = b ∧ a ≠ 0 ∧ a ≠ (pr ps i).l := by
  unfold nm at h
  split at h
  · cases h
  · split at h
    · cases h
    · rename_i x y
      cases h
      exact ⟨rfl, rfl, x, y⟩
theorem nm_one {ps : List Pi} {i a t : Int} (h : nm ps i a = [t]) : (a = 0 ∧ (pr ps i).x = t) ∨ (a = (pr ps i).l ∧ (pr ps i).y = t) := by
  unfold nm at h
  split at h
  · rename_i x; cases h; exact .inl ⟨x, rfl⟩
  · split at h
    · rename_i x; cases h; exact .inr ⟨x, rfl⟩
    · cases h
section
variable {n : Int} {ps : List Pi} {d : Int → Int → Int} (T : Tm n ps d)
include T
theorem ok_nm {i a : Int} (h0 : 0 ≤ i) (h1 : i < ps.length) (a0 : 0 ≤ a) (a1 : a ≤ (pr ps i).l) : okP n ps (nm ps i a) := by
  obtain ⟨x0, x1, y0, y1, l1⟩ := T.at h0 h1
  by_cases e : a = 0
  · rw [e, nm_0]; exact ⟨x0, x1⟩
  · by_cases f : a = (pr ps i).l
    · rw [f, nm_l (by omega)]; exact ⟨y0, y1⟩
    · rw [nm_mid e f]; exact ⟨h0, h1, by omega, by omega⟩
theorem Dp_nn {s q : Pl} (hs : okP n ps s) (hq : okP n ps q) : 0 ≤ Dp ps d s q := by
  have drn : ∀ {r i a : Int}, 0 ≤ r → r < n → 0 ≤ i → i < ps.length → 0 ≤ a → a ≤ (pr ps i).l → 0 ≤ dr ps d r i a := fun {r i a} r0 r1 h0 h1 a0 a1 => by
    obtain ⟨x0, x1, y0, y1, l1⟩ := T.at h0 h1
    have e1 := T.nn r0 r1 x0 x1
    have e2 := T.nn r0 r1 y0 y1
    unfold dr; omega
  rcases ok_cases hs with ⟨r, rfl, r0, r1⟩ | ⟨j, b, rfl, k0, k1, b0, b1⟩ <;> rcases ok_cases hq with ⟨t, rfl, t0, t1⟩ | ⟨i, a, rfl, h0, h1, a0, a1⟩
  · exact T.nn r0 r1 t0 t1
  · exact drn r0 r1 h0 h1 (by omega) (by omega)
  · exact drn t0 t1 k0 k1 (by omega) (by omega)
  · obtain ⟨x0, x1, y0, y1, l1⟩ := T.at k0 k1
    have e1 := drn (a := a) x0 x1 h0 h1 (by omega) (by omega)
    have e2 := drn (a := a) y0 y1 h0 h1 (by omega) (by omega)
    show 0 ≤ (if j = i then ab b a else _)
    split
    · unfold ab; split <;> omega
    · omega
theorem Dp_self {s : Pl} (hs : okP n ps s) : Dp ps d s s = 0 := by
  rcases ok_cases hs with ⟨r, rfl, r0, r1⟩ | ⟨j, b, rfl, k0, k1, b0, b1⟩
  · exact T.zero r
  · show (if j = j then ab b b else _) = 0
    rw [if_pos rfl]
    unfold ab; split <;> omega
theorem Dp_par {s : Pl} (hs : okP n ps s) {p : Pl} (hp : okP n ps p) (ne : p ≠ s) : ∃ q, Adj ps p q ∧ Dp ps d s p = Dp ps d s q + 1 := by
  rcases ok_cases hp with ⟨t, rfl, t0, t1⟩ | ⟨i, a, rfl, h0, h1, a0, a1⟩
  · obtain ⟨i, h0, h1, h⟩ := door_ex T hs t0 t1 (Ne.symm ne)
    obtain ⟨f0, f1, _, f⟩ := foot_at T hs h0 h1
    have l1 := (T.at h0 h1).2.2.2.2
    rcases h with ⟨e, g⟩ | ⟨e, g⟩
    · refine ⟨nm ps i 1, ⟨i, 0, h0, h1, by omega, by omega, .inl ⟨by rw [nm_0, e], rfl⟩⟩, ?_⟩
      have e1 := f 0 (by omega) (by omega)
      have e2 := f 1 (by omega) (by omega)
      rw [nm_0, e] at e1
      unfold ab at e1 e2
      split at e1 <;> split at e2 <;> omega
    · refine ⟨nm ps i ((pr ps i).l - 1), ⟨i, (pr ps i).l - 1, h0, h1, by omega, by omega, .inr ⟨rfl, by rw [show (pr ps i).l - 1 + 1 = (pr ps i).l by omega, nm_l (by omega), e]⟩⟩, ?_⟩
      have e1 := f (pr ps i).l (by omega) (by omega)
      have e2 := f ((pr ps i).l - 1) (by omega) (by omega)
      rw [nm_l (by omega), e] at e1
      unfold ab at e1 e2
      split at e1 <;> split at e2 <;> omega
  · obtain ⟨f0, f1, f2, f⟩ := foot_at T hs h0 h1
    have nf : foot ps d s i ≠ a := fun z => ne (by rw [f2 (by omega) (by omega), z])
    have pe : nm ps i a = [i, a] := nm_mid (by omega) (by omega)
    have e1 := f a (by omega) (by omega)
    rw [pe] at e1
    by_cases c : foot ps d s i < a
    · refine ⟨nm ps i (a - 1), ⟨i, a - 1, h0, h1, by omega, by omega, .inr ⟨rfl, by rw [show a - 1 + 1 = a by omega, pe]⟩⟩, ?_⟩
      have e2 := f (a - 1) (by omega) (by omega)
      unfold ab at e1 e2
      split at e1 <;> split at e2 <;> omega
    · refine ⟨nm ps i (a + 1), ⟨i, a, h0, h1, by omega, by omega, .inl ⟨pe.symm, rfl⟩⟩, ?_⟩
      have e2 := f (a + 1) (by omega) (by omega)
      unfold ab at e1 e2
      split at e1 <;> split at e2 <;> omega
/-! a next place of a room, nearer to the source: by which door -/
theorem near_door {s : Pl} (hs : okP n ps s) {t : Int} {q : Pl} (h : Adj ps [t] q) (hd : Dp ps d s [t] = Dp ps d s q + 1) : ∃ i, Door ps d s t i ∧ (((pr ps i).x = t ∧ q = nm ps i 1) ∨ ((pr ps i).y = t ∧ q = nm ps i ((pr ps i).l - 1))) := by
  obtain ⟨i, a, h0, h1, a0, a1, h⟩ := h
  obtain ⟨f0, f1, _, f⟩ := foot_at T hs h0 h1
  have e1 := f a a0 (by omega)
  have e2 := f (a + 1) (by omega) (by omega)
  rcases h with ⟨hp, rfl⟩ | ⟨rfl, hp⟩
  · rw [← hp] at e1
    rcases nm_one hp.symm with ⟨z, ex⟩ | ⟨z, _⟩
    · subst z
      refine ⟨i, ⟨h0, h1, .inl ⟨ex, fun w => ?_⟩⟩, .inl ⟨ex, rfl⟩⟩
      rw [w] at e1 e2
      unfold ab at e1 e2
      split at e1 <;> split at e2 <;> omega
    · omega
  · rw [← hp] at e2
    rcases nm_one hp.symm with ⟨z, _⟩ | ⟨z, ey⟩
    · omega
    · have ea : a = (pr ps i).l - 1 := by omega
      refine ⟨i, ⟨h0, h1, .inr ⟨ey, fun w => ?_⟩⟩, .inr ⟨ey, by rw [ea]⟩⟩
      rw [w] at e1 e2
      unfold ab at e1 e2
      split at e1 <;> split at e2 <;> omega
/-! a next place of a place within a pipe -/
theorem near_mid {i a : Int} (a0 : 1 ≤ a) (a1 : a ≤ (pr ps i).l - 1) {q : Pl} (h : Adj ps [i, a] q) : q = nm ps i (a - 1) ∨ q = nm ps i (a + 1) := by
  obtain ⟨j, b, h0, h1, b0, b1, h⟩ := h
  rcases h with ⟨hp, rfl⟩ | ⟨rfl, hp⟩
  · obtain ⟨e1, e2, _, _⟩ := nm_two hp.symm
    subst e1 e2
    exact .inr rfl
  · obtain ⟨e1, e2, _, _⟩ := nm_two hp.symm
    subst e1
    left
    rw [← e2, show b + 1 - 1 = b by omega]
theorem Dp_uni {s : Pl} (hs : okP n ps s) {p : Pl} (hp : okP n ps p) {q q' : Pl} (h : Adj ps p q) (h' : Adj ps p q') (e : Dp ps d s p = Dp ps d s q + 1) (e' : Dp ps d s p = Dp ps d s q' + 1) : q = q' := by
  rcases ok_cases hp with ⟨t, rfl, t0, t1⟩ | ⟨i, a, rfl, h0, h1, a0, a1⟩
  · obtain ⟨i, d1, c1⟩ := near_door T hs h e
    obtain ⟨i', d2, c2⟩ := near_door T hs h' e'
    have ii := door_uni T hs t0 t1 d1 d2
    subst ii
    have o := (T.own d1.1 d1.2.1).2.2
    rcases c1 with ⟨a1, a2⟩ | ⟨a1, a2⟩ <;> rcases c2 with ⟨b1, b2⟩ | ⟨b1, b2⟩
    · rw [a2, b2]
    · exact absurd (a1.trans b1.symm) o
    · exact absurd (b1.trans a1.symm) o
    · rw [a2, b2]
  · obtain ⟨f0, f1, f2, f⟩ := foot_at T hs h0 h1
    have pe : nm ps i a = [i, a] := nm_mid (by omega) (by omega)
    have g1 := f a (by omega) (by omega)
    have g2 := f (a - 1) (by omega) (by omega)
    have g3 := f (a + 1) (by omega) (by omega)
    rw [pe] at g1
    rcases near_mid T a0 a1 h with rfl | rfl <;> rcases near_mid T a0 a1 h' with rfl | rfl
    · rfl
    · unfold ab at g1 g2 g3; split at g1 <;> split at g2 <;> split at g3 <;> omega
    · unfold ab at g1 g2 g3; split at g1 <;> split at g2 <;> split at g3 <;> omega
    · rfl
theorem ok_adj {p q : Pl} (h : Adj ps p q) : okP n ps q := by
  obtain ⟨i, a, h0, h1, a0, a1, h⟩ := h
  rcases h with ⟨_, rfl⟩ | ⟨rfl, _⟩
  · exact ok_nm T h0 h1 (by omega) (by omega)
  · exact ok_nm T h0 h1 (by omega) (by omega)
theorem Tm.places {s : Pl} (hs : okP n ps s) : Sr s (okP n ps) (Dp ps d s) (fun p q w => Adj ps p q ∧ w = 1) where
  zero := Dp_self T hs
  here := hs
  nn := fun v h => Dp_nn T hs h
  wt := fun u v w _ h => by rw [h.2]; exact Int.le_refl 1
  cl := fun u v w _ h => ok_adj T h.1
  sym := fun u v w h => ⟨h.1.symm, h.2⟩
  step := fun u v w _ h => by rw [h.2]; exact Dp_step T hs h.1
  par := fun v hv ne => by
    obtain ⟨q, h1, h2⟩ := Dp_par T hs hv ne
    exact ⟨q, 1, ⟨h1, rfl⟩, h2⟩
  uni := fun v u w u' w' hv h h' e e' => by
    rw [h.2] at e
    rw [h'.2] at e'
    exact Dp_uni T hs hv h.1 h'.1 e e'
end
end Rw

namespace Rw
open PySem PySem.Spec PyProof.Rows L2
theorem walk_enumT {K : PySem.W.Frag} {a : Addr} {xs : List V} : Walk (IteT K a) xs.length (fun H => SqT K H a xs) (YPair (fun i => some (.int (i : Nat))) (fun i => xs[i]?)) := by
  refine ⟨fun i _ hi q => ⟨xs, xs[i], q, by simp [hi]⟩, fun _ q => ⟨xs, q, Nat.le_refl _⟩, fun i H v H' _ q y => ?_⟩
  obtain ⟨T, x, z1, z2, z3, z4⟩ := y
  exact ⟨T, _, x, z1, z2, z3, rfl, z4 xs q⟩
theorem Keep.fr {H J : Hp} {p : Addr} (k : Keep [] H J) (n : J p = none) : H p = none := by
  cases e : H p with
  | none => rfl
  | some o => rw [k p o e List.not_mem_nil] at n; cases n
/-! a house, as the program is given it -/
structure HouseOk (n : Int) (ps : List Pi) : Prop where
  n1 : 1 ≤ n
  n2 : n ≤ 16
  len : (ps.length : Int) = n - 1
  ok : ∀ p ∈ ps, p.ok n
theorem HouseOk.at {n : Int} {ps : List Pi} (h : HouseOk n ps) {i : Nat} (hi : i < ps.length) : (pr ps (i : Int)).ok n ∧ ps[i]? = some (pr ps (i : Int)) := by
  have e := pr_mem (ps := ps) (i := (i : Int)) (by omega) (by omega)
  exact ⟨h.ok _ e.1, by rw [show ((i : Int)).toNat = i by omega] at e; exact e.2⟩
/-! ### the doors of each room -/
def doorRow (ps : List Pi) (r : Int) (j : Nat) : List (List Int) :=
  (if (pr ps (j : Int)).x = r then [[(j : Int), 0, (pr ps (j : Int)).y, (pr ps (j : Int)).l]] else []) ++ (if (pr ps (j : Int)).y = r then [[(j : Int), (pr ps (j : Int)).l, (pr ps (j : Int)).x, 0]] else [])
def doorsTo (ps : List Pi) (r : Int) (i : Nat) : List (List Int) := (List.range i).flatMap (doorRow ps r)
theorem doorsTo_succ (ps : List Pi) (r : Int) (i : Nat) : doorsTo ps r (i + 1) = doorsTo ps r i ++ doorRow ps r i := by
  unfold doorsTo
  rw [List.range_succ, List.flatMap_append]
  simp
/-! lists of rows of ints, each at its own address -/
def Rws (av : List Addr) (G : Hp) (ds : List Addr) (f : Nat → List (List Int)) (m : Nat) : Prop := ∀ (r : Nat) (a : Addr), ds[r]? = some a → ∃ ts, G a = some (.lst ts) ∧ Dts av G ts ((f r).map tupI) ∧ ts.length ≤ m
theorem Rws.new {av : List Addr} {G : Hp} {ds : List Addr} {f : Nat → List (List Int)} {m : Nat} {p : Addr} {o : HO} (h : Rws av G ds f m) (n : G p = none) : Rws av (upd G p o) ds f m := fun r a e => by
  obtain ⟨ts, h1, h2, h3⟩ := h r a e
  exact ⟨ts, by rw [upd_ne (ne_of_none h1 n)]; exact h1, h2.keep (Keep.new n), h3⟩
theorem Rws.less {av av' : List Addr} {G : Hp} {ds : List Addr} {f : Nat → List (List Int)} {m : Nat} (h : Rws av G ds f m) (s : ∀ a ∈ av', a ∈ av) : Rws av' G ds f m := fun r a e => by
  obtain ⟨ts, h1, h2, h3⟩ := h r a e
  exact ⟨ts, h1, h2.less s, h3⟩
theorem nodup_at {ds : List Addr} (nd : ds.Nodup) {r s : Nat} {a : Addr} (h : ds[r]? = some a) (h' : ds[s]? = some a) : r = s := by
  obtain ⟨h1, e1⟩ := List.getElem?_eq_some_iff.mp h
  obtain ⟨h2, e2⟩ := List.getElem?_eq_some_iff.mp h'
  exact (List.getElem_inj nd).mp (e1.trans e2.symm)
theorem dts_ints {av : List Addr} {H : Hp} (ns : List Int) : Dts av H (ns.map V.int) (ns.map PyData.int) := Dts.ints ns
theorem Rws.put {av : List Addr} {G : Hp} {ds : List Addr} {f : Nat → List (List Int)} {m : Nat} (h : Rws av G ds f m) (sub : ∀ a ∈ ds, a ∈ av) (nd : ds.Nodup) (tr : Tr av G) {r0 : Nat} {a0 t : Addr} {ts0 : List V} {ns : List Int} (e0 : ds[r0]? = some a0) (g0 : G a0 = some (.lst ts0)) (nt : G t = none) :
    Rws av (upd (upd G t (.tup (ns.map V.int))) a0 (.lst (ts0 ++ [.ref t]))) ds (fun r => if r = r0 then f r ++ [ns] else f r) (m + 1) := fun r a e => by
  have m0 : a0 ∈ av := sub a0 (List.mem_of_getElem? e0)
  obtain ⟨ts, h1, h2, h3⟩ := h r a e
  have h2' : Dts av (upd (upd G t (.tup (ns.map V.int))) a0 (.lst (ts0 ++ [.ref t]))) ts ((f r).map tupI) := (h2.keep (Keep.new nt)).keep (Keep.put m0)
  by_cases c : r = r0
  · subst c
    rw [e] at e0; cases e0
    rw [h1] at g0; cases g0
    refine ⟨ts0 ++ [.ref t], upd_same, ?_, by rw [List.length_append, List.length_singleton]; omega⟩
    show Dts _ _ _ (List.map tupI (if r = r then f r ++ [ns] else f r))
    rw [if_pos rfl, List.map_append]
    have nta : t ≠ a0 := (ne_of_none h1 nt).symm
    exact Dts.app h2' (.cons (.tup (tr.not nt) (by rw [upd_ne nta]; exact upd_same) (Dts.ints ns)) .nil)
  · have ne : a ≠ a0 := fun z => by subst z; exact c (nodup_at nd e e0)
    refine ⟨ts, by rw [upd_ne ne, upd_ne (ne_of_none h1 nt)]; exact h1, ?_, by omega⟩
    show Dts _ _ _ (List.map tupI (if r = r0 then f r ++ [ns] else f r))
    rw [if_neg c]; exact h2'
end Rw

namespace Rw
open PySem PySem.Spec PyProof.Rows L2
/-! ### how far all rooms lie from one -/
theorem pigeon : ∀ (n : Nat) (F : List Int), F.Nodup → (∀ t ∈ F, 0 ≤ t ∧ t < n) → F.length ≤ n
  | 0, [], _, _ => Nat.le_refl _
  | 0, t :: _, _, h => by have := h t List.mem_cons_self; omega
  | n + 1, F, nd, h => by
    by_cases m : (n : Int) ∈ F
    · have e := List.length_erase_of_mem m
      have := pigeon n (F.erase (n : Int)) (nd.erase _) (fun t ht => by
        have z := (nd.mem_erase_iff).mp ht
        have := h t z.2
        have := z.1
        omega)
      omega
    · have := pigeon n F nd (fun t ht => by
        have := h t ht
        have : t ≠ n := fun z => m (z ▸ ht)
        omega)
      omega
theorem mem_doors {ps : List Pi} {u : Int} {m : Nat} {row : List Int} : row ∈ doorsTo ps u m ↔ ∃ j : Nat, j < m ∧ (((pr ps (j : Int)).x = u ∧ row = [(j : Int), 0, (pr ps (j : Int)).y, (pr ps (j : Int)).l]) ∨ ((pr ps (j : Int)).y = u ∧ row = [(j : Int), (pr ps (j : Int)).l, (pr ps (j : Int)).x, 0])) := by
  unfold doorsTo
  rw [List.mem_flatMap]
  constructor
  · rintro ⟨j, hj, h⟩
    refine ⟨j, List.mem_range.mp hj, ?_⟩
    unfold doorRow at h
    rcases List.mem_append.mp h with h | h
    · split at h
      · rename_i e; exact .inl ⟨e, List.mem_singleton.mp h⟩
      · cases h
    · split at h
      · rename_i e; exact .inr ⟨e, List.mem_singleton.mp h⟩
      · cases h
  · rintro ⟨j, hj, h⟩
    refine ⟨j, List.mem_range.mpr hj, ?_⟩
    unfold doorRow
    rcases h with ⟨e, h⟩ | ⟨e, h⟩
    · rw [if_pos e, h]; exact List.mem_append_left _ List.mem_cons_self
    · rw [if_pos e, h]; exact List.mem_append_right _ List.mem_cons_self
/-! a row as towards has it: of a room, the door that leads nearer to r -/
def TowRow (ps : List Pi) (d : Int → Int → Int) (r t : Int) (row : List Int) : Prop :=
  ∃ (i : Nat) (p : Pi), ps[i]? = some p ∧ ((row = [(i : Int), 0, p.y, p.l] ∧ p.x = t ∧ d r p.y + p.l = d r t) ∨ (row = [(i : Int), p.l, p.x, 0] ∧ p.y = t ∧ d r p.x + p.l = d r t))
def TowE (av : List Addr) (G : Hp) (kw : List (Key × V)) (F : List Int) (ps : List Pi) (d : Int → Int → Int) (r : Int) : Prop :=
  ∀ t ∈ F, t ≠ r → ∃ (T : Addr) (row : List Int), valV kw (Sum.inl t) = some (.ref T) ∧ T ∉ av ∧ G T = some (.tup (row.map V.int)) ∧ TowRow ps d r t row
theorem TowE.keep {av : List Addr} {G G' : Hp} {kw : List (Key × V)} {F : List Int} {ps : List Pi} {d : Int → Int → Int} {r : Int} (h : TowE av G kw F ps d r) (k : ∀ b xs, G b = some (.tup xs) → G' b = some (.tup xs)) : TowE av G' kw F ps d r := fun t ht nt => by
  obtain ⟨T, row, h1, h2, h3, h4⟩ := h t ht nt
  exact ⟨T, row, h1, h2, k T _ h3, h4⟩
theorem keepTup {G : Hp} {b : Addr} {o u : HO} (e : G b = some o) (ho : ∀ xs, o ≠ .tup xs) : ∀ c xs, G c = some (.tup xs) → (upd G b u) c = some (.tup xs) := fun c xs ec => by
  have : c ≠ b := fun z => by rw [z, e] at ec; exact ho xs (Option.some.inj ec)
  rw [upd_ne this]; exact ec
theorem keepTupN {G : Hp} {b : Addr} {u : HO} (e : G b = none) : ∀ c xs, G c = some (.tup xs) → (upd G b u) c = some (.tup xs) := fun c xs ec => by
  rw [upd_ne (ne_of_none ec e)]; exact ec
def GapsAt (H : Hp) (g : Addr) (n : Int) (d : Int → Int → Int) (r : Int) : Prop := ∃ kvs, H g = some (.dK kvs) ∧ ∀ t, 0 ≤ t → t < n → valV kvs (Sum.inl t) = some (.int (d r t))
def TowAt (av : List Addr) (H : Hp) (w : Addr) (n : Int) (ps : List Pi) (d : Int → Int → Int) (r : Int) : Prop := ∃ kvs, H w = some (.dK kvs) ∧ TowE av H kvs (start n.toNat) ps d r
/-! what was found so far, what waits, but for here what was gone through is closed -/
structure SS (n : Int) (ps : List Pi) (d : Int → Int → Int) (r : Int) (F td ex : List Int) : Prop where
  nd : F.Nodup
  rg : ∀ t ∈ F, 0 ≤ t ∧ t < n
  src : r ∈ F
  sub : ∀ t ∈ td, t ∈ F
  few : td.length ≤ F.length
  par : Pard r (d r) (RE ps) F
  cl : ∀ u ∈ F, u ∉ td → u ∉ ex → ∀ v w, RE ps u v w → v ∈ F
theorem SS.first {n : Int} {ps : List Pi} {d : Int → Int → Int} {r : Int} (r0 : 0 ≤ r) (r1 : r < n) : SS n ps d r [r] [r] [] where
  nd := by simp
  rg := fun t ht => by rw [List.mem_singleton.mp ht]; exact ⟨r0, r1⟩
  src := List.mem_cons_self
  sub := fun t ht => ht
  few := Nat.le_refl _
  par := fun v hv nv => absurd (List.mem_singleton.mp hv) nv
  cl := fun u hu nu => absurd hu nu
theorem SS.pop {n : Int} {ps : List Pi} {d : Int → Int → Int} {r h : Int} {F td : List Int} (S : SS n ps d r F (td ++ [h]) []) : SS n ps d r F td [h] where
  nd := S.nd
  rg := S.rg
  src := S.src
  sub := fun t ht => S.sub t (List.mem_append_left _ ht)
  few := by have := S.few; rw [List.length_append] at this; omega
  par := S.par
  cl := fun u hu n1 n2 => S.cl u hu (fun m => (List.mem_append.mp m).elim n1 n2) List.not_mem_nil
theorem SS.add {n : Int} {ps : List Pi} {d : Int → Int → Int} {r h v w : Int} {F td : List Int} (T : Tm n ps d) (S : SS n ps d r F td [h]) (hh : h ∈ F) (nv : v ∉ F) (e : RE ps h v w) : SS n ps d r (F ++ [v]) (td ++ [v]) [h] ∧ d r v = d r h + w := by
  have rr := S.rg r S.src
  have R := T.rooms rr.1 rr.2
  have dv := R.found S.par hh (S.rg h hh) e nv
  refine ⟨⟨?_, ?_, List.mem_append_left _ S.src, ?_, by have := S.few; rw [List.length_append, List.length_append]; exact Nat.add_le_add_right this _, S.par.snoc hh (R.sym _ _ _ e) dv, ?_⟩, dv⟩
  · refine List.nodup_append.mpr ⟨S.nd, by simp, fun a ha b hb z => ?_⟩
    rw [List.mem_singleton.mp hb] at z
    exact nv (z ▸ ha)
  · intro t ht
    rcases List.mem_append.mp ht with m | m
    · exact S.rg t m
    · rw [List.mem_singleton.mp m]; exact R.cl _ _ _ (S.rg h hh) e
  · intro t ht
    rcases List.mem_append.mp ht with m | m
    · exact List.mem_append_left _ (S.sub t m)
    · exact List.mem_append_right _ m
  · intro u hu n1 n2 x y ex
    rcases List.mem_append.mp hu with m | m
    · exact List.mem_append_left _ (S.cl u m (fun z => n1 (List.mem_append_left _ z)) n2 x y ex)
    · exact absurd (List.mem_append_right _ m) n1
theorem SS.done {n : Int} {ps : List Pi} {d : Int → Int → Int} {r h : Int} {F td : List Int} (S : SS n ps d r F td [h]) (hc : ∀ v w, RE ps h v w → v ∈ F) : SS n ps d r F td [] where
  nd := S.nd
  rg := S.rg
  src := S.src
  sub := S.sub
  few := S.few
  par := S.par
  cl := fun u hu n1 _ v w e => by
    by_cases z : u = h
    · rw [z] at e; exact hc v w e
    · exact S.cl u hu n1 (fun m => z (List.mem_singleton.mp m)) v w e
theorem SS.all {n : Int} {ps : List Pi} {d : Int → Int → Int} {r : Int} {F : List Int} (T : Tm n ps d) (S : SS n ps d r F [] []) {t : Int} (t0 : 0 ≤ t) (t1 : t < n) : t ∈ F := by
  have rr := S.rg r S.src
  exact (T.rooms rr.1 rr.2).all S.src (fun u hu v w e => S.cl u hu List.not_mem_nil List.not_mem_nil v w e) _ t ⟨t0, t1⟩ (Nat.lt_succ_self _)
/-! the dicts: gaps has just what was found -/
def GapE (kg : List (Key × V)) (F : List Int) (d : Int → Int → Int) (r : Int) : Prop := kg.length = F.length ∧ (∀ t ∈ F, valV kg (Sum.inl t) = some (.int (d r t))) ∧ ∀ t, t ∉ F → valV kg (Sum.inl t) = none
theorem GapE.put {kg : List (Key × V)} {F : List Int} {d : Int → Int → Int} {r v : Int} (h : GapE kg F d r) (nv : v ∉ F) : GapE (putK kg (Sum.inl v) (.int (d r v))) (F ++ [v]) d r := by
  obtain ⟨h1, h2, h3⟩ := h
  refine ⟨?_, fun t ht => ?_, fun t ht => ?_⟩
  · rw [putK_new _ (h3 v nv), List.length_append, List.length_append, h1]; rfl
  · rw [valV_put]
    by_cases e : t = v
    · rw [e, if_pos rfl]
    · rw [if_neg (fun z => e (Sum.inl.inj z))]
      rcases List.mem_append.mp ht with m | m
      · exact h2 t m
      · exact absurd (List.mem_singleton.mp m) e
  · rw [valV_put, if_neg (fun z => ht (by rw [Sum.inl.inj z]; exact List.mem_append_right _ List.mem_cons_self))]
    exact h3 t (fun z => ht (List.mem_append_left _ z))
theorem Dts.unints {av : List Addr} {H : Hp} : ∀ {xs : List V} {ns : List Int}, Dts av H xs (ns.map PyData.int) → xs = ns.map V.int
  | _, [], h => by cases h; rfl
  | _, n :: ns, h => by
    cases h with
    | cons h1 h2 => cases h1; rw [Dts.unints h2]; rfl
theorem tupI_at {av : List Addr} {H : Hp} {v : V} {ns : List Int} (h : Dt av H v (tupI ns)) : ∃ a, v = .ref a ∧ a ∉ av ∧ H a = some (.tup (ns.map V.int)) := by
  unfold tupI at h
  cases h with
  | tup n e d => rw [d.unints] at e; exact ⟨_, rfl, n, e⟩
end Rw

namespace Rw
open PySem PySem.Spec PyProof.Rows L2
/-! ### a house's plan -/
def pf1 (b : V) : List (Str × V) := [("built", b)]
def pf2 (b p : V) : List (Str × V) := [("built", b), ("pipes", p)]
def pf3 (b p e : V) : List (Str × V) := [("built", b), ("pipes", p), ("doors", e)]
def pf4 (b p e g : V) : List (Str × V) := [("built", b), ("pipes", p), ("doors", e), ("gaps", g)]
def pf5 (b p e g t : V) : List (Str × V) := [("built", b), ("pipes", p), ("doors", e), ("gaps", g), ("towards", t)]
theorem putF_new {k : Str} {v : V} : ∀ fs : List (Str × V), (fs.all fun e => !decide (e.1 = k)) = true → putF k v fs = fs ++ [(k, v)]
  | [], _ => rfl
  | (x, y) :: r, h => by
    rw [List.all_cons, Bool.and_eq_true] at h
    have n : ¬ x = k := by
      intro z
      rw [decide_eq_true z] at h
      cases h.1
    show (if x = k then _ else (x, y) :: putF k v r) = _
    rw [if_neg n, putF_new r h.2]; rfl
theorem pf_2 (b p : V) : putF "pipes" p (pf1 b) = pf2 b p := putF_new (k := "pipes") (pf1 b) (by show (!decide (("built" : Str) = "pipes") && true) = true; decide +kernel)
theorem pf_3 (b p e : V) : putF "doors" e (pf2 b p) = pf3 b p e := putF_new (k := "doors") (pf2 b p) (by show (!decide (("built" : Str) = "doors") && (!decide (("pipes" : Str) = "doors") && true)) = true; decide +kernel)
theorem pf_4 (b p e g : V) : putF "gaps" g (pf3 b p e) = pf4 b p e g := putF_new (k := "gaps") (pf3 b p e) (by show (!decide (("built" : Str) = "gaps") && (!decide (("pipes" : Str) = "gaps") && (!decide (("doors" : Str) = "gaps") && true))) = true; decide +kernel)
theorem pf_5 (b p e g t : V) : putF "towards" t (pf4 b p e g) = pf5 b p e g t := putF_new (k := "towards") (pf4 b p e g) (by show (!decide (("built" : Str) = "towards") && (!decide (("pipes" : Str) = "towards") && (!decide (("doors" : Str) = "towards") && (!decide (("gaps" : Str) = "towards") && true)))) = true; decide +kernel)
theorem lk_no {k x : Str} {y : V} {r : List (Str × V)} (h : (k == x) = false) : ((x, y) :: r).lookup k = r.lookup k := by simp only [List.lookup, h]
theorem lk_yes {k : Str} {y : V} {r : List (Str × V)} : ((k, y) :: r).lookup k = some y := by simp [List.lookup]
theorem pf_built (b p e g t : V) : (pf5 b p e g t).lookup ("built" : Str) = some b := lk_yes
theorem pf_pipes (b p e g t : V) : (pf5 b p e g t).lookup ("pipes" : Str) = some p := ((lk_no (k := "pipes") (x := "built") (by decide +kernel)).trans lk_yes)
theorem pf_doors (b p e g t : V) : (pf5 b p e g t).lookup ("doors" : Str) = some e := ((lk_no (k := "doors") (x := "built") (by decide +kernel)).trans ((lk_no (k := "doors") (x := "pipes") (by decide +kernel)).trans lk_yes))
theorem pf_gaps (b p e g t : V) : (pf5 b p e g t).lookup ("gaps" : Str) = some g := ((lk_no (k := "gaps") (x := "built") (by decide +kernel)).trans ((lk_no (k := "gaps") (x := "pipes") (by decide +kernel)).trans ((lk_no (k := "gaps") (x := "doors") (by decide +kernel)).trans lk_yes)))
theorem pf_tow (b p e g t : V) : (pf5 b p e g t).lookup ("towards" : Str) = some t := ((lk_no (k := "towards") (x := "built") (by decide +kernel)).trans ((lk_no (k := "towards") (x := "pipes") (by decide +kernel)).trans ((lk_no (k := "towards") (x := "doors") (by decide +kernel)).trans ((lk_no (k := "towards") (x := "gaps") (by decide +kernel)).trans lk_yes))))
def PlanAt (C : Addr) (av : List Addr) (H : Hp) (a : Addr) (n : Int) (ps : List Pi) (d : Int → Int → Int) : Prop :=
  ∃ (dx hb pp dl gl tl : Addr) (xp : List V) (ds gs ws : List Addr), a ∉ av ∧ H a = some (.ins C dx (pf5 (.ref hb) (.ref pp) (.ref dl) (.ref gl) (.ref tl))) ∧ hb ∉ av ∧ H hb = some (.tup [.int n, .ref pp]) ∧ pp ∉ av ∧ H pp = some (.tup xp) ∧ Dts av H xp (ps.map Pi.dat) ∧
    dl ∉ av ∧ H dl = some (.lst (ds.map V.ref)) ∧ (ds.length : Int) = n ∧ (∀ z ∈ ds, z ∉ av) ∧ Rws av H ds (fun r => doorsTo ps (r : Int) ps.length) 100 ∧
    gl ∉ av ∧ H gl = some (.lst (gs.map V.ref)) ∧ gs.length = n.toNat ∧ (∀ (r : Nat) (z : Addr), gs[r]? = some z → z ∉ av ∧ GapsAt H z n d (r : Int)) ∧
    tl ∉ av ∧ H tl = some (.lst (ws.map V.ref)) ∧ ws.length = n.toNat ∧ ∀ (r : Nat) (z : Addr), ws[r]? = some z → z ∉ av ∧ TowAt av H z n ps d (r : Int)
theorem GapsAt.keep {av : List Addr} {H H' : Hp} {z : Addr} {n r : Int} {d : Int → Int → Int} (h : GapsAt H z n d r) (nz : z ∉ av) (k : Keep av H H') : GapsAt H' z n d r := by
  obtain ⟨kvs, e, h⟩ := h
  exact ⟨kvs, k z _ e nz, h⟩
theorem TowAt.keep {av : List Addr} {H H' : Hp} {z : Addr} {n r : Int} {ps : List Pi} {d : Int → Int → Int} (h : TowAt av H z n ps d r) (nz : z ∉ av) (k : Keep av H H') : TowAt av H' z n ps d r := by
  obtain ⟨kvs, e, h⟩ := h
  refine ⟨kvs, k z _ e nz, fun t ht nt => ?_⟩
  obtain ⟨T, row, h1, h2, h3, h4⟩ := h t ht nt
  exact ⟨T, row, h1, h2, k T _ h3 h2, h4⟩
theorem TowAt.less {av av' : List Addr} {H : Hp} {z : Addr} {n r : Int} {ps : List Pi} {d : Int → Int → Int} (h : TowAt av H z n ps d r) (s : ∀ a ∈ av', a ∈ av) : TowAt av' H z n ps d r := by
  obtain ⟨kvs, e, h⟩ := h
  refine ⟨kvs, e, fun t ht nt => ?_⟩
  obtain ⟨T, row, h1, h2, h3, h4⟩ := h t ht nt
  exact ⟨T, row, h1, fun m => h2 (s T m), h3, h4⟩
theorem Rws.keep {av : List Addr} {G G' : Hp} {ds : List Addr} {f : Nat → List (List Int)} {m : Nat} (h : Rws av G ds f m) (nz : ∀ z ∈ ds, z ∉ av) (k : Keep av G G') : Rws av G' ds f m := fun r a e => by
  obtain ⟨ts, h1, h2, h3⟩ := h r a e
  exact ⟨ts, k a _ h1 (nz a (List.mem_of_getElem? e)), h2.keep k, h3⟩
theorem Rws.more {av : List Addr} {G : Hp} {ds : List Addr} {f : Nat → List (List Int)} {m : Nat} {p : Addr} (h : Rws av G ds f m) (n : G p = none) : Rws (p :: av) G ds f m := fun r a e => by
  obtain ⟨ts, h1, h2, h3⟩ := h r a e
  exact ⟨ts, h1, h2.more n, h3⟩
theorem PlanAt.keep {C : Addr} {av : List Addr} {H H' : Hp} {a : Addr} {n : Int} {ps : List Pi} {d : Int → Int → Int} (h : PlanAt C av H a n ps d) (k : Keep av H H') : PlanAt C av H' a n ps d := by
  obtain ⟨dx, hb, pp, dl, gl, tl, xp, ds, gs, ws, a1, a2, a3, a4, a5, a6, a7, a8, a9, b1, b2, b3, b4, b5, b6, b7, b8, b9, c1, c2⟩ := h
  exact ⟨dx, hb, pp, dl, gl, tl, xp, ds, gs, ws, a1, k _ _ a2 a1, a3, k _ _ a4 a3, a5, k _ _ a6 a5, a7.keep k, a8, k _ _ a9 a8, b1, b2, b3.keep b2 k, b4, k _ _ b5 b4, b6, fun r z e => ⟨(b7 r z e).1, (b7 r z e).2.keep (b7 r z e).1 k⟩, b8, k _ _ b9 b8, c1, fun r z e => ⟨(c2 r z e).1, (c2 r z e).2.keep (c2 r z e).1 k⟩⟩
theorem PlanAt.less {C : Addr} {av av' : List Addr} {H : Hp} {a : Addr} {n : Int} {ps : List Pi} {d : Int → Int → Int} (h : PlanAt C av H a n ps d) (s : ∀ a ∈ av', a ∈ av) : PlanAt C av' H a n ps d := by
  obtain ⟨dx, hb, pp, dl, gl, tl, xp, ds, gs, ws, a1, a2, a3, a4, a5, a6, a7, a8, a9, b1, b2, b3, b4, b5, b6, b7, b8, b9, c1, c2⟩ := h
  have f : ∀ {z : Addr}, z ∉ av → z ∉ av' := fun nz m => nz (s _ m)
  exact ⟨dx, hb, pp, dl, gl, tl, xp, ds, gs, ws, f a1, a2, f a3, a4, f a5, a6, a7.less s, f a8, a9, b1, fun z m => f (b2 z m), b3.less s, f b4, b5, b6, fun r z e => ⟨f (b7 r z e).1, (b7 r z e).2⟩, f b8, b9, c1, fun r z e => ⟨f (c2 r z e).1, (c2 r z e).2.less s⟩⟩
/-! a class of the program whose __init__ keeps a promise -/
def CanMk (P : Program) (w : World) (K : PySem.W.Frag) (mg : Str → Option Value) (base : Heap) (x : Str) (C : Addr) (ps : List Str) (k : Nat) (sp : Sp) : Prop := ∃ f fd, Mk K C f ∧ FnOk P w K mg base CX0 k f fd ps sp ∧ mg x = some (.ref C) ∧ Binds K fd ps []
theorem pe_mk {X : Cx} {x : Str} {C : Addr} {ps : List Str} {k : Nat} {sp : Sp} {e : Expr} {es : List Expr} {t : TA} {p pos : Pos} (M : CanMk X.prog X.w X.K X.mg X.base x C ps k sp) (hr : Room (k + 1) X.A) (hg : Gl X x)
    (ha : PA X (e :: es) t) (hdb : (x == ("__debug__" : Str)) = false := by decide) (he : starEach (e :: es) X.env = (false, eval e X.env) :: starEach es X.env := by rfl) (hpl : (backTo pos (starEach es X.env)).any (·.1) = false := by rfl) :
    PE X (.Call (.Name x p) (e :: es) [] pos) (tMake C sp [] E0 t) := by
  obtain ⟨f, fd, M, F, gm, b⟩ := M
  exact pe_make M F hr hg gm b .nil pass0 ha hdb he hpl
structure PlanTxt (K : PySem.W.Frag) (C : Addr) : Prop where
  cl : Cls K C
  nB : NoAttr K C "built"
  nP : NoAttr K C "pipes"
  nD : NoAttr K C "doors"
  nG : NoAttr K C "gaps"
  nT : NoAttr K C "towards"
end Rw

namespace Rw
open PySem PySem.Spec PyProof.Rows L2
/-! ### how far places lie apart -/
def onePipe (p q : Pl) : Bool := decide (p.length = 2) && (decide (q.length = 2) && decide (p.headD 0 = q.headD 0))
def exitsL (ps : List Pi) : Pl → List (List Int)
  | [r] => [[r, 0]]
  | [i, a] => [[(pr ps i).x, a], [(pr ps i).y, (pr ps i).l - a]]
  | _ => []
theorem Dt.nil {av : List Addr} {H : Hp} {v : V} {d : PyData} (h : Dt av H v d) : Dt [] H v d := h.less fun _ m => nomatch m
end Rw

namespace Rw
open PySem PySem.Spec PyProof.Rows L2
theorem hu10 {k : Nat} {A : Around} (hr : Room k A) : A.units + 10 < cLine := by have := hr.units; omega
/-! the rows that are compared -/
def trip (d : Int → Int → Int) (e f : List Int) : List Int := [e.getD 1 0 + d (e.getD 0 0) (f.getD 0 0) + f.getD 1 0, e.getD 0 0, f.getD 0 0]
def trips (ps : List Pi) (d : Int → Int → Int) (p q : Pl) : List (List Int) := (exitsL ps p).flatMap fun e => (exitsL ps q).map (trip d e)
theorem exits_ok {n : Int} {ps : List Pi} {d : Int → Int → Int} (T : Tm n ps d) {p : Pl} (h : okP n ps p) : ∀ e ∈ exitsL ps p, ∃ r b, e = [r, b] ∧ 0 ≤ r ∧ r < n := by
  intro e he
  rcases ok_cases h with ⟨r, rfl, r0, r1⟩ | ⟨i, b, rfl, h0, h1, b0, b1⟩
  · rw [List.mem_singleton.mp (show e ∈ [[r, 0]] from he)]; exact ⟨r, 0, rfl, r0, r1⟩
  · obtain ⟨x0, x1, y0, y1, _⟩ := T.at h0 h1
    rcases List.mem_cons.mp (show e ∈ [[(pr ps i).x, b], [(pr ps i).y, (pr ps i).l - b]] from he) with rfl | he
    · exact ⟨_, _, rfl, x0, x1⟩
    · rw [List.mem_singleton.mp he]; exact ⟨_, _, rfl, y0, y1⟩
theorem exits_few (ps : List Pi) (p : Pl) : (exitsL ps p).length ≤ 2 := by
  unfold exitsL
  split <;> simp
theorem exits_ne {n : Int} {ps : List Pi} {p : Pl} (h : okP n ps p) : exitsL ps p ≠ [] := by
  rcases ok_cases h with ⟨r, rfl, _⟩ | ⟨i, b, rfl, _⟩
  · intro z; cases z
  · intro z; cases z
theorem lay_tups : ∀ nss : List (List Int), PyData.canLayAll0 (nss.map tupI) = true
  | [] => by simp only [List.map_nil, PyData.canLayAll0]
  | n :: ns => by
    rw [List.map_cons]
    show (PyData.canLay0 (.tuple (n.map .int)) && PyData.canLayAll0 (ns.map tupI)) = true
    rw [lay_tups ns, Bool.and_true]
    show PyData.canLay0 (.tuple (n.map .int)) = true
    simp only [PyData.canLay0, tupI_lay n]
end Rw

namespace Rw
open PySem PySem.Spec PyProof.Rows L2
theorem trips_min {n : Int} {ps : List Pi} {d : Int → Int → Int} (T : Tm n ps d) {p q : Pl} (hp : okP n ps p) (hq : okP n ps q) (ne : onePipe p q = false) {ns : List Int} (m : ns ∈ trips ps d p q) (h : ∀ x ∈ trips ps d p q, ns.headD 0 ≤ x.headD 0) : ns.headD 0 = Dp ps d p q := by
  rcases ok_cases hp with ⟨r, rfl, r0, r1⟩ | ⟨i, b, rfl, h0, h1, b0, b1⟩ <;> rcases ok_cases hq with ⟨t, rfl, t0, t1⟩ | ⟨j, a, rfl, k0, k1, a0, a1⟩
  · have m' : ns ∈ [[0 + d r t + 0, r, t]] := m
    rw [List.mem_singleton.mp m']
    show 0 + d r t + 0 = d r t
    omega
  · have e : trips ps d [r] [j, a] = [[0 + d r (pr ps j).x + a, r, (pr ps j).x], [0 + d r (pr ps j).y + ((pr ps j).l - a), r, (pr ps j).y]] := rfl
    rw [e] at m h
    have g1 := h _ List.mem_cons_self
    have g2 := h _ (List.mem_cons_of_mem _ List.mem_cons_self)
    simp only [List.headD_cons] at g1 g2
    show _ = dr ps d r j a
    unfold dr
    rcases List.mem_cons.mp m with rfl | m
    · simp only [List.headD_cons] at g1 g2 ⊢; omega
    · rw [List.mem_singleton.mp m] at g1 g2 ⊢; simp only [List.headD_cons] at g1 g2 ⊢; omega
  · have e : trips ps d [i, b] [t] = [[b + d (pr ps i).x t + 0, (pr ps i).x, t], [(pr ps i).l - b + d (pr ps i).y t + 0, (pr ps i).y, t]] := rfl
    rw [e] at m h
    have g1 := h _ List.mem_cons_self
    have g2 := h _ (List.mem_cons_of_mem _ List.mem_cons_self)
    simp only [List.headD_cons] at g1 g2
    show _ = dr ps d t i b
    unfold dr
    rw [T.sym t (pr ps i).x, T.sym t (pr ps i).y]
    rcases List.mem_cons.mp m with rfl | m
    · simp only [List.headD_cons] at g1 g2 ⊢; omega
    · rw [List.mem_singleton.mp m] at g1 g2 ⊢; simp only [List.headD_cons] at g1 g2 ⊢; omega
  · have nij : ¬ i = j := fun z => by subst z; simp [onePipe] at ne
    have e : trips ps d [i, b] [j, a] = [[b + d (pr ps i).x (pr ps j).x + a, (pr ps i).x, (pr ps j).x], [b + d (pr ps i).x (pr ps j).y + ((pr ps j).l - a), (pr ps i).x, (pr ps j).y],
      [(pr ps i).l - b + d (pr ps i).y (pr ps j).x + a, (pr ps i).y, (pr ps j).x], [(pr ps i).l - b + d (pr ps i).y (pr ps j).y + ((pr ps j).l - a), (pr ps i).y, (pr ps j).y]] := rfl
    rw [e] at m h
    have g1 := h _ List.mem_cons_self
    have g2 := h _ (List.mem_cons_of_mem _ List.mem_cons_self)
    have g3 := h _ (List.mem_cons_of_mem _ (List.mem_cons_of_mem _ List.mem_cons_self))
    have g4 := h _ (List.mem_cons_of_mem _ (List.mem_cons_of_mem _ (List.mem_cons_of_mem _ List.mem_cons_self)))
    simp only [List.headD_cons] at g1 g2 g3 g4
    show _ = (if i = j then ab b a else min (b + dr ps d (pr ps i).x j a) ((pr ps i).l - b + dr ps d (pr ps i).y j a))
    rw [if_neg nij]
    unfold dr
    rcases List.mem_cons.mp m with rfl | m
    · simp only [List.headD_cons] at g1 g2 g3 g4 ⊢; omega
    · rcases List.mem_cons.mp m with rfl | m
      · simp only [List.headD_cons] at g1 g2 g3 g4 ⊢; omega
      · rcases List.mem_cons.mp m with rfl | m
        · simp only [List.headD_cons] at g1 g2 g3 g4 ⊢; omega
        · rw [List.mem_singleton.mp m] at g1 g2 g3 g4 ⊢; simp only [List.headD_cons] at g1 g2 g3 g4 ⊢; omega
theorem one_pipe {n : Int} {ps : List Pi} {d : Int → Int → Int} {p q : Pl} (hp : okP n ps p) (hq : okP n ps q) (h : onePipe p q = true) : ∃ i a b, p = [i, a] ∧ q = [i, b] ∧ Dp ps d p q = ab a b := by
  rcases ok_cases hp with ⟨r, rfl, _⟩ | ⟨i, a, rfl, _⟩ <;> rcases ok_cases hq with ⟨t, rfl, _⟩ | ⟨j, b, rfl, _⟩
  · cases h
  · cases h
  · cases h
  · have e : i = j := by simpa [onePipe] using h
    subst e
    exact ⟨i, a, b, rfl, rfl, if_pos rfl⟩
theorem abs_ab (a b : Int) : (if a - b < 0 then -(a - b) else a - b) = ab a b := by unfold ab; split <;> split <;> omega
theorem ok_ne {n : Int} {ps : List Pi} {p : Pl} (h : okP n ps p) : p ≠ [] := by
  rcases ok_cases h with ⟨r, rfl, _⟩ | ⟨i, a, rfl, _⟩ <;> (intro z; cases z)
end Rw

namespace Rw
open PySem PySem.Spec PyProof.Rows L2
def aStr : PyData → Bool
  | .str _ => true
  | _ => false
theorem kit_str (d : PyData) : kitB (tn d) "str" = some (aStr d) := by
  cases d <;> first | exact (show kitB "NoneType" "str" = some false by decide +kernel) | exact (show kitB "bool" "str" = some false by decide +kernel) | exact (show kitB "int" "str" = some false by decide +kernel) | exact (show kitB "str" "str" = some true by decide +kernel) | exact (show kitB "list" "str" = some false by decide +kernel) | exact (show kitB "tuple" "str" = some false by decide +kernel) | exact (show kitB "dict" "str" = some false by decide +kernel)
def aLst : PyData → Bool
  | .list _ => true
  | _ => false
theorem kit_lst (d : PyData) : kitB (tn d) "list" = some (aLst d) := by
  cases d <;> first | exact (show kitB "NoneType" "list" = some false by decide +kernel) | exact (show kitB "bool" "list" = some false by decide +kernel) | exact (show kitB "int" "list" = some false by decide +kernel) | exact (show kitB "str" "list" = some false by decide +kernel) | exact (show kitB "list" "list" = some true by decide +kernel) | exact (show kitB "tuple" "list" = some false by decide +kernel) | exact (show kitB "dict" "list" = some false by decide +kernel)
theorem kit_int_lt {K : PySem.W.Frag} : PySem.W.kitAny K (.type "int") [.type "list", .type "tuple"] = some false :=
  kitAny_cons (kit_ty (r := false) (by decide +kernel)) (fun _ => kitAny_cons (kit_ty (r := false) (by decide +kernel)) (fun _ => rfl) (fun e => by cases e)) (fun e => by cases e)
theorem kit_tup_lt {K : PySem.W.Frag} : PySem.W.kitAny K (.type "tuple") [.type "list", .type "tuple"] = some true :=
  kitAny_cons (kit_ty (r := false) (by decide +kernel)) (fun _ => kitAny_cons (kit_ty (r := true) (by decide +kernel)) (fun e => by cases e) (fun _ => rfl)) (fun e => by cases e)
end Rw

namespace Rw
open PySem PySem.Spec PyProof.Rows L2
/-! rules that several laws' own defs want -/
theorem abs_nn (i : Int) : 0 ≤ (if i < 0 then -i else i) := by split <;> omega
theorem st {H : Hp} {p b : Addr} {o u : HO} (n : H p = none) (e : H b = some u) : (upd H p o) b = some u := by rw [upd_ne (ne_of_none e n)]; exact e
variable {X : Cx}
def rNilL (K : PySem.W.Frag) (neg : Bool) : R2 := fun x y H Q => ∃ a b xs, x = .ref a ∧ y = .ref b ∧ SqL K H a xs ∧ SqL K H b [] ∧ Q (.bl (if neg then !xs.isEmpty else xs.isEmpty)) H
theorem op_neNilL (hu : X.A.units < cLine) : OpR X (compareOp .NotEq) (rNilL X.K true) := by
  intro pins s σ H x y v u Q I rx ry h
  obtain ⟨a, b, xs, rfl, rfl, ha, hb, q⟩ := h
  cases rx
  cases ry
  obtain ⟨its, r, pl, _⟩ := I.list ha
  obtain ⟨its2, r2, pl2, _⟩ := I.list hb
  cases r2
  have fin : EP X pins σ Q (.bool (!xs.isEmpty)) s := ⟨.bl (!xs.isEmpty), H, I, rfl, q⟩
  cases r with
  | nil => exact SeqAt.RcNeAt.lists (A := X.A) (s := s) (e := fun _ => true) pl.isList pl2.isList rfl hu (fun j j1 _ => absurd j1 (Nat.not_lt_zero j)) X.prog X.w X.xe _ fin
  | cons _ _ => exact SeqAt.RcNeAt.lists_lengths (A := X.A) (s := s) pl.isList pl2.isList (by simp) hu X.prog X.w X.xe _ fin
theorem op_eqNilL (hu : X.A.units < cLine) : OpR X (compareOp .Eq) (rNilL X.K false) := by
  intro pins s σ H x y v u Q I rx ry h
  obtain ⟨a, b, xs, rfl, rfl, ha, hb, q⟩ := h
  cases rx
  cases ry
  obtain ⟨its, r, pl, _⟩ := I.list ha
  obtain ⟨its2, r2, pl2, _⟩ := I.list hb
  cases r2
  have fin : EP X pins σ Q (.bool xs.isEmpty) s := ⟨.bl xs.isEmpty, H, I, rfl, q⟩
  cases r with
  | nil => exact SeqAt.RcAt.lists (A := X.A) (s := s) (e := fun _ => true) pl.isList pl2.isList rfl hu (fun j j1 _ => absurd j1 (Nat.not_lt_zero j)) X.prog X.w X.xe _ fin
  | cons _ _ => exact SeqAt.RcAt.lists_lengths (A := X.A) (s := s) pl.isList pl2.isList (by simp) hu X.prog X.w X.xe _ fin
end Rw

namespace Rw
open PySem PySem.Spec PyProof.Rows L2
theorem Tr.kp {av xs : List Addr} {H H' : Hp} (t : Tr av H) (k : Keep xs H H') (e : Tr xs H') : Tr av H' := fun a m => by
  by_cases h : a ∈ xs
  · exact e a h
  · obtain ⟨o, z⟩ := t a m; exact ⟨o, k a o z h⟩
theorem Keep.fre {xs : List Addr} {H H' : Hp} {p : Addr} (k : Keep xs H H') (e : Tr xs H') (n : H' p = none) : H p = none := by
  cases z : H p with
  | none => rfl
  | some o =>
    by_cases h : p ∈ xs
    · obtain ⟨u, q⟩ := e p h; rw [n] at q; cases q
    · have := k p o z h; rw [n] at this; cases this
/-! ### tuples by their data: made, put together, cut -/
theorem tup_new {av : List Addr} {J : Hp} {xs : List V} {ds : List PyData} {Q : VK} (tr : Tr av J) (dx : Dts av J xs ds) (len : xs.length ≤ 1000) (k : ∀ J' r, Keep [] J J' → Tr av J' → J r = none → Dt av J' (.ref r) (.tuple ds) → Q (.ref r) J') : xs.length ≤ sizeLine ∧ ∀ p, J p = none → Q (.ref p) (upd J p (.tup xs)) :=
  ⟨Nat.le_trans len (show 1000 ≤ sizeLine by decide), fun p np => k _ p (Keep.new np) tr.upd np (.tup (tr.not np) upd_same (dx.keep (Keep.new np)))⟩
theorem tup_facts {av : List Addr} {J : Hp} {xs : List V} {ds : List PyData} {p : Addr} (tr : Tr av J) (dx : Dts av J xs ds) (np : J p = none) : Keep [] J (upd J p (.tup xs)) ∧ Tr av (upd J p (.tup xs)) ∧ Dt av (upd J p (.tup xs)) (.ref p) (.tuple ds) :=
  ⟨Keep.new np, tr.upd, .tup (tr.not np) upd_same (dx.keep (Keep.new np))⟩
theorem tup_at {av : List Addr} {J : Hp} {v : V} {ds : List PyData} (h : Dt av J v (.tuple ds)) : ∃ (a : Addr) (xs : List V), v = .ref a ∧ a ∉ av ∧ J a = some (.tup xs) ∧ Dts av J xs ds := by
  cases h with
  | tup n e d => exact ⟨_, _, rfl, n, e, d⟩
theorem cat_data {K : PySem.W.Frag} {av : List Addr} {J : Hp} {x y : V} {dx dy : List PyData} {Q : VK} (hx : Dt av J x (.tuple dx)) (hy : Dt av J y (.tuple dy)) (tr : Tr av J) (len : dx.length + dy.length ≤ 1000) (k : ∀ J' r, Keep [] J J' → Tr av J' → Dt av J' (.ref r) (.tuple (dx ++ dy)) → Q (.ref r) J') : rCatA K x y J Q := by
  obtain ⟨a, xs, rfl, na, ea, da⟩ := tup_at hx
  obtain ⟨b, ys, rfl, nb, eb, db⟩ := tup_at hy
  have lx := da.len
  have ly := db.len
  refine ⟨a, b, xs, ys, rfl, rfl, SqT.of ea, SqT.of eb, Nat.le_trans (by omega : xs.length + ys.length ≤ 1000) (show 1000 ≤ sizeLine by decide), fun z => ?_, fun _ z => ?_, fun _ _ p np => ?_⟩
  · have : dx = [] := List.eq_nil_of_length_eq_zero (by rw [← lx, z]; rfl)
    exact k J b (Keep.refl _ _) tr (by rw [this, List.nil_append]; exact hy)
  · have : dy = [] := List.eq_nil_of_length_eq_zero (by rw [← ly, z]; rfl)
    exact k J a (Keep.refl _ _) tr (by rw [this, List.append_nil]; exact hx)
  · exact k _ p (Keep.new np) tr.upd (.tup (tr.not np) upd_same ((da.app db).keep (Keep.new np)))
theorem six_nat (n d k : Nat) : HT.sIx n d (some (k : Int)) = min k n := HT.sIx_nat ..
theorem front_data {K : PySem.W.Frag} {av : List Addr} {J : Hp} {x : V} {dx : List PyData} {i : Int} {Q : VK} (hx : Dt av J x (.tuple dx)) (tr : Tr av J) (i0 : 0 ≤ i) (k : ∀ J' r, Keep [] J J' → Tr av J' → Dt av J' (.ref r) (.tuple (dx.take i.toNat)) → Q (.ref r) J') : rSlA K x none (some i) J Q := by
  obtain ⟨a, xs, rfl, na, ea, da⟩ := tup_at hx
  have ei : i = ((i.toNat : Nat) : Int) := by omega
  refine ⟨a, xs, rfl, SqT.of ea, fun z => ?_, fun _ p np => ?_⟩
  · have z2 := z.2
    rw [ei, six_nat] at z2
    exact k J a (Keep.refl _ _) tr (by rw [List.take_of_length_le (by rw [← da.len]; omega)]; exact hx)
  · refine k _ p (Keep.new np) tr.upd (.tup (tr.not np) upd_same ?_)
    rw [show cutV xs none (some i) = xs.take i.toNat by have := cut_to xs i.toNat; rw [← ei] at this; exact this]
    exact (da.take _).keep (Keep.new np)
theorem rear_data {K : PySem.W.Frag} {av : List Addr} {J : Hp} {x : V} {dx : List PyData} {i : Int} {Q : VK} (hx : Dt av J x (.tuple dx)) (tr : Tr av J) (i0 : 0 ≤ i) (k : ∀ J' r, Keep [] J J' → Tr av J' → Dt av J' (.ref r) (.tuple (dx.drop i.toNat)) → Q (.ref r) J') : rSlA K x (some i) none J Q := by
  obtain ⟨a, xs, rfl, na, ea, da⟩ := tup_at hx
  have ei : i = ((i.toNat : Nat) : Int) := by omega
  refine ⟨a, xs, rfl, SqT.of ea, fun z => ?_, fun _ p np => ?_⟩
  · have z1 := z.1
    rw [ei, six_nat] at z1
    refine k J a (Keep.refl _ _) tr ?_
    by_cases c : i.toNat = 0
    · rw [c, List.drop_zero]; exact hx
    · have : xs.length = 0 := by omega
      have : dx = [] := List.eq_nil_of_length_eq_zero (by rw [← da.len]; omega)
      rw [this, List.drop_nil, ← this]; exact hx
  · refine k _ p (Keep.new np) tr.upd (.tup (tr.not np) upd_same ?_)
    rw [show cutV xs (some i) none = xs.drop i.toNat by have := cut_from xs i.toNat; rw [← ei] at this; exact this]
    exact (da.drop _).keep (Keep.new np)
end Rw

namespace Rw
open PySem PySem.Spec PyProof.Rows L2
/-! the deck of great cells' digits, a mixed number and a count (at most b) -/
structure Dk (H : Hp) (D G : Addr) (b : Int) : Prop where
  ex : ∃ (rs : List Int) (wh c : Int), H D = some (.lst [.ref G, .int wh, .int c]) ∧ H G = some (.lst (rs.map V.int)) ∧ rs.length ≤ 100 ∧ (∀ r ∈ rs, 0 ≤ r) ∧ 0 ≤ wh ∧ wh < 2305843009213693951 ∧ 0 ≤ c ∧ c ≤ b
  ne : D ≠ G
theorem Dk.mono {H : Hp} {D G : Addr} {b b' : Int} (x : Dk H D G b) (h : b ≤ b') : Dk H D G b' := by
  obtain ⟨⟨rs, wh, c, e1, e2, e3, e4, e5, e6, e7, e8⟩, n⟩ := x
  exact ⟨⟨rs, wh, c, e1, e2, e3, e4, e5, e6, e7, by omega⟩, n⟩
theorem Dk.keep {H H' : Hp} {D G : Addr} {b : Int} (x : Dk H D G b) (k : Keep [] H H') : Dk H' D G b := by
  obtain ⟨⟨rs, wh, c, e1, e2, r⟩, n⟩ := x
  exact ⟨⟨rs, wh, c, k _ _ e1 List.not_mem_nil, k _ _ e2 List.not_mem_nil, r⟩, n⟩
theorem Dk.other {H : Hp} {D G p : Addr} {b : Int} {o : HO} (x : Dk H D G b) (h1 : p ≠ D) (h2 : p ≠ G) : Dk (upd H p o) D G b := by
  obtain ⟨⟨rs, wh, c, e1, e2, r⟩, n⟩ := x
  exact ⟨⟨rs, wh, c, by rw [upd_ne h1.symm]; exact e1, by rw [upd_ne h2.symm]; exact e2, r⟩, n⟩
theorem Dk.nes {H : Hp} {D G p : Addr} {b : Int} (x : Dk H D G b) (n : H p = none) : p ≠ D ∧ p ≠ G := by
  obtain ⟨⟨rs, wh, c, e1, e2, r⟩, _⟩ := x
  exact ⟨(ne_of_none e1 n).symm, (ne_of_none e2 n).symm⟩
theorem Dk.new {H : Hp} {D G p : Addr} {b : Int} {o : HO} (x : Dk H D G b) (n : H p = none) : Dk (upd H p o) D G b := x.other (x.nes n).1 (x.nes n).2
theorem Dk.tr {H : Hp} {D G : Addr} {b : Int} (x : Dk H D G b) : Tr [D, G] H := fun a m => by
  obtain ⟨⟨rs, wh, c, e1, e2, r⟩, _⟩ := x
  rcases List.mem_cons.mp m with rfl | m
  · exact ⟨_, e1⟩
  · rw [List.mem_singleton.mp m]; exact ⟨_, e2⟩
structure Sg (av : List Addr) (D G : Addr) (H J : Hp) (b : Int) : Prop where
  k : Keep [D, G] H J
  dk : Dk J D G b
  tr : Tr av J
theorem Sg.new {av : List Addr} {D G p : Addr} {H J : Hp} {b : Int} {o : HO} (s : Sg av D G H J b) (n : J p = none) : Sg av D G H (upd J p o) b := ⟨s.k.trans (Keep.new n), s.dk.new n, s.tr.upd⟩
theorem Sg.go {av : List Addr} {D G : Addr} {H J J' : Hp} {b b' : Int} (s : Sg av D G H J b) (k : Keep [D, G] J J') (d : Dk J' D G b') : Sg av D G H J' b' := ⟨s.k.trans k, d, s.tr.kp k d.tr⟩
theorem Sg.kp {av : List Addr} {D G : Addr} {H J J' : Hp} {b : Int} (s : Sg av D G H J b) (k : Keep [] J J') : Sg av D G H J' b := s.go k.of (s.dk.keep k)
theorem Sg.free {av : List Addr} {D G p : Addr} {H J : Hp} {b : Int} (s : Sg av D G H J b) (n : J p = none) : H p = none := s.k.fre s.dk.tr n
theorem Sg.mono {av : List Addr} {D G : Addr} {H J : Hp} {b b' : Int} (s : Sg av D G H J b) (h : b ≤ b') : Sg av D G H J b' := ⟨s.k, s.dk.mono h, s.tr⟩
theorem two_in {D G : Addr} {av : List Addr} (m1 : D ∈ av) (m2 : G ∈ av) : ∀ a ∈ [D, G], a ∈ av := fun a m => by
  rcases List.mem_cons.mp m with rfl | m
  · exact m1
  · rw [List.mem_singleton.mp m]; exact m2
theorem not2 {D G p : Addr} (h : p ≠ D ∧ p ≠ G) : p ∉ [D, G] := fun m => by
  rcases List.mem_cons.mp m with m | m
  · exact h.1 m
  · exact h.2 (List.mem_singleton.mp m)
end Rw

namespace Rw
open PySem PySem.Spec PyProof.Rows L2
theorem pick_in {P : Int → Prop} {xs : List Int} (h : ∀ x ∈ xs, P x) {k : Int} (k0 : 0 ≤ k) (k1 : k < xs.length) : ∃ j, atI (xs.map V.int) k = some (.int j) ∧ P j := by
  have hk : k.toNat < xs.length := by omega
  refine ⟨xs[k.toNat], atI_of k0 ?_, h _ (List.getElem_mem hk)⟩
  rw [List.getElem?_map, List.getElem?_eq_getElem hk]; rfl
theorem con_up {n : Int} {ps : List Pi} (h : ∀ r : Int, 1 ≤ r → r < n → ∃ p ∈ ps, p.y = r ∧ 0 ≤ p.x ∧ p.x < r) : Con n.toNat (edges ps) := by
  intro S hE
  have key : ∀ k : Nat, ∀ a : Nat, a ≤ k → a < n.toNat → S a = S 0 := by
    intro k
    induction k with
    | zero => intro a h0 _; rw [show a = 0 by omega]
    | succ k ih =>
      intro a ha hn
      by_cases z : a ≤ k
      · exact ih a z hn
      · obtain ⟨p, hp, e1, e2, e3⟩ := h (a : Int) (by omega) (by omega)
        have := hE (p.x.toNat, p.y.toNat) (List.mem_map.mpr ⟨p, hp, rfl⟩)
        have z1 : S p.x.toNat = S p.y.toNat := this
        rw [show a = p.y.toNat by omega, ← z1]
        exact ih _ (by omega) (by omega)
  exact fun a ha => key a a (Nat.le_refl _) ha
end Rw

namespace Rw
open PySem PySem.Spec PyProof.Rows L2 TL
/-! ### numbers in figures -/
abbrev tx (i : Int) : Str := Str.ofString (toString i)
theorem tx_tl {i : Int} (h : 0 ≤ i) : tl (tx i) = numL i.toNat := by
  have e : i = ((i.toNat : Nat) : Int) := by omega
  have z := tl_num i.toNat
  rw [← e] at z
  exact z
theorem tx_len {i : Int} (h : 0 ≤ i) {k : Nat} (hk : 0 < k) (hi : i < ((10 ^ k : Nat) : Int)) : (tx i).length ≤ k := by
  rw [len_tl, tx_tl h]
  exact numL_len hk (by omega)
theorem tx_pos {i : Int} (h : 0 ≤ i) : 1 ≤ (tx i).length := by
  rw [len_tl, tx_tl h]
  exact List.length_pos_iff.mpr (numL_ne _)
theorem tx_free {i : Int} (h : 0 ≤ i) {s : Nat} (hs : s < 48 ∨ 57 < s) : s ∉ tl (tx i) := by
  rw [tx_tl h]; exact numL_free hs
theorem numL_head : ∀ (k n : Nat), n ≤ k → 1 ≤ n → ∃ c r, numL n = c :: r ∧ c ≠ 48
  | 0, n, h, h1 => by omega
  | k + 1, n, h, h1 => by
    by_cases c : n < 10
    · exact ⟨48 + n, [], numL_lt c, by omega⟩
    · obtain ⟨c', r, e, ne⟩ := numL_head k (n / 10) (by omega) (by omega)
      exact ⟨c', r ++ [48 + n % 10], by rw [numL_step (by omega), e]; rfl, ne⟩
theorem tx_head {i : Int} (h : 0 ≤ i) : ∃ c r, tl (tx i) = c :: r ∧ (c = 48 → r = []) := by
  rw [tx_tl h]
  by_cases z : i.toNat = 0
  · rw [z]
    exact ⟨48, [], numL_lt (by decide), fun _ => rfl⟩
  · obtain ⟨c, r, e, ne⟩ := numL_head i.toNat i.toNat (Nat.le_refl _) (by omega)
    exact ⟨c, r, e, fun z => absurd z ne⟩
theorem tx_int {i : Int} (h : 0 ≤ i) (hl : (tx i).length ≤ 640) : intText? (tx i) = some i := by
  have e : i = ((i.toNat : Nat) : Int) := by omega
  have z := int_num (n := i.toNat) (by rw [← tx_tl h, ← len_tl]; omega)
  rw [← e] at z
  exact z
theorem tx_dig {i : Int} (h : 0 ≤ i) : ∀ c ∈ tl (tx i), 48 ≤ c ∧ c ≤ 57 := by
  rw [tx_tl h]
  intro c hc
  by_cases z : c < 48 ∨ 57 < c
  · exact absurd hc (numL_free z)
  · omega
theorem tx_log {i : Int} (h : 0 ≤ i) (hi : i ≤ 1000000000000000) : i.natAbs.log2 < 1920 := by
  have e : i.natAbs < 2 ^ 60 := by have : (2 : Nat) ^ 60 = 1152921504606846976 := by decide
                                   omega
  by_cases z : i.natAbs = 0
  · rw [z]; decide
  · exact Nat.lt_of_lt_of_le ((Nat.log2_lt z).mpr e) (by decide)
/-! texts put together -/
theorem join_one (y a : Str) : Txt.join y [a] = a := by
  rw [join_eq]
  refine ext_tl ?_
  rw [tl_join]; rfl
theorem join_two (y a b : Str) : Txt.join y [a, b] = a ++ y ++ b := by
  rw [join_eq]
  refine ext_tl ?_
  rw [tl_join, tl_append, tl_append]
  simp [joinL]
theorem len_app (a b : Str) : (a ++ b).length = a.length + b.length := by rw [len_tl, len_tl, len_tl, tl_append, List.length_append]
theorem app_assoc (a b c : Str) : a ++ b ++ c = a ++ (b ++ c) := ext_tl (by rw [tl_append, tl_append, tl_append, tl_append, List.append_assoc])
abbrev plusT : Str := Str.ofString "+"
abbrev blankT : Str := Str.ofString " "
abbrev crossT : Str := Str.ofString "x"
theorem plus_tl : tl plusT = [43] := by decide +kernel
theorem blank_tl : tl blankT = [32] := by decide +kernel
theorem cross_tl : tl crossT = [120] := by decide +kernel
def ptx : List Int → Str
  | [i, a] => tx i ++ plusT ++ tx a
  | [r] => tx r
  | _ => Str.empty
def okT : List Int → Prop
  | [i, a] => 0 ≤ i ∧ i < 1000000000000000 ∧ 1 ≤ a ∧ a < 1000000000000000
  | [r] => 0 ≤ r ∧ r < 1000000000000000
  | _ => False
theorem okT_cases {p : List Int} (h : okT p) : (∃ r, p = [r] ∧ 0 ≤ r ∧ r < 1000000000000000) ∨ ∃ i a, p = [i, a] ∧ 0 ≤ i ∧ i < 1000000000000000 ∧ 1 ≤ a ∧ a < 1000000000000000 := by
  match p, h with
  | [r], h => exact .inl ⟨r, rfl, h⟩
  | [i, a], h => exact .inr ⟨i, a, rfl, h⟩
theorem len15 {i : Int} (h : 0 ≤ i) (hi : i < 1000000000000000) : (tx i).length ≤ 15 := tx_len h (by decide) (by have : ((10 ^ 15 : Nat) : Int) = 1000000000000000 := by decide
                                                                                                                 omega)
theorem ptx_len {p : List Int} (h : okT p) : (ptx p).length ≤ 31 := by
  rcases okT_cases h with ⟨r, rfl, r0, r1⟩ | ⟨i, a, rfl, i0, i1, a0, a1⟩
  · have := len15 r0 r1
    show (tx r).length ≤ 31; omega
  · have h1 := len15 i0 i1
    have h2 := len15 (show 0 ≤ a by omega) a1
    have h3 : plusT.length = 1 := by decide +kernel
    show (tx i ++ plusT ++ tx a).length ≤ 31
    rw [len_app, len_app]; omega
theorem ptx_free {p : List Int} (h : okT p) : 32 ∉ tl (ptx p) := by
  rcases okT_cases h with ⟨r, rfl, r0, r1⟩ | ⟨i, a, rfl, i0, i1, a0, a1⟩
  · exact tx_free r0 (by decide)
  · show 32 ∉ tl (tx i ++ plusT ++ tx a)
    rw [tl_append, tl_append, plus_tl]
    intro m
    rcases List.mem_append.mp m with m | m
    · rcases List.mem_append.mp m with m | m
      · exact tx_free i0 (by decide) m
      · simp at m
    · exact tx_free (show 0 ≤ a by omega) (by decide) m
theorem cr_repr_str {X : Cx} : CallR X (.builtin "repr") (fun xs H Q => ∃ a, xs = [.str a] ∧ (reprText a).length ≤ sizeLine ∧ Q (.str (reprText a)) H) := by
  intro pins s σ H args vals Q I r ask
  obtain ⟨a, rfl, hz, q⟩ := ask
  obtain ⟨u, rfl, t, rfl⟩ := vals1 r
  exact PySem.P.repr_of_str ⟨.str _, H, I.tok _, ⟨_, rfl⟩, q⟩ hz
end Rw

namespace Rw
open PySem PySem.Spec PyProof.Rows L2 TL
/-- over a text's signs -/
theorem lc_txt {x : Str} {g : TG} {tt : TT} {te : TE} {vs : List Nat} {σ : L2.St} {H1 : Hp} {D : Addr} {Qd : Hp → Prop} (Pv : Nat → Hp → Prop) (h0 : Pv 0 (upd H1 D (.lst [])))
    (hs : ∀ i c H, (tl x)[i]? = some c → Pv i H → g (.str ⟨#[c]⟩) (wipe σ vs) H fun σ2 H2 => wipe σ2 vs = wipe σ vs ∧ tt σ2 H2 fun b H3 =>
      if b = true then te σ2 H3 fun y H4 => ∃ acc, H4 D = some (.lst acc) ∧ acc.length < sizeLine ∧ Pv (i + 1) (upd H4 D (.lst (acc ++ [y]))) else Pv (i + 1) H3) (hd : ∀ H, Pv (tl x).length H → Qd H) :
    ∃ W : Nat → Nat → Hp → Prop, (∃ m, W 0 m (upd H1 D (.lst []))) ∧ ∀ i m H, W i m H →
      ((Its x).stop i H ∧ Qd H) ∨ ((Its x).go i H ∧ ∃ Nx : Hp → Prop, (∀ H', Nx H' → ∃ m', m' < m ∧ W (i + 1) m' H') ∧ ∀ v H', (Its x).yld i H v H' → g v (wipe σ vs) H' fun σ2 H2 => wipe σ2 vs = wipe σ vs ∧ tt σ2 H2 fun b H3 =>
        if b = true then te σ2 H3 fun y H4 => ∃ acc, H4 D = some (.lst acc) ∧ acc.length < sizeLine ∧ Nx (upd H4 D (.lst (acc ++ [y]))) else Nx H3) := by
  refine ⟨fun i m H => m + i = (tl x).length ∧ Pv i H, ⟨(tl x).length, rfl, h0⟩, fun i m H w => ?_⟩
  obtain ⟨wm, p⟩ := w
  have sz : x.cps.size = (tl x).length := Array.length_toList.symm
  match m, wm with
  | 0, wm =>
    have e : i = (tl x).length := by omega
    exact .inl ⟨show x.cps.size ≤ i by omega, hd H (e ▸ p)⟩
  | m + 1, wm =>
    refine .inr ⟨show i < x.cps.size by omega, Pv (i + 1), fun G pG => ⟨m, Nat.lt_succ_self m, by omega, pG⟩, fun v G y => ?_⟩
    obtain ⟨rfl, c, hc, rfl⟩ := y
    exact hs i c _ (by rw [Array.getElem?_toList]; exact hc) p
abbrev figT : Str := Str.ofString "0123456789"
theorem fig_in {c : Nat} (h : 48 ≤ c ∧ c ≤ 57) : decide (c ∈ figT.cps.toList) = true := by
  have e : figT.cps.toList = [48, 49, 50, 51, 52, 53, 54, 55, 56, 57] := by decide +kernel
  rw [e]
  refine decide_eq_true ?_
  simp only [List.mem_cons, List.not_mem_nil, or_false]
  omega
section
variable {P : Program} {w : World} {K : PySem.W.Frag} {mg : Str → Option Value} {base : Heap}
abbrev sNum : Stmt := topS 24
abbrev nNum : List Str := ["text", "most", "sign"]
theorem scNum : FnScope nNum ["text", "most"] (defScope sNum) := ⟨rfl, rfl, rfl, by decide +kernel, rfl, by decide +kernel, by decide +kernel⟩
def spNum : Sp := fun vs H Q _ => ∃ (i most : Int), vs = [.str (tx i), .int most] ∧ 0 ≤ i ∧ ((tx i).length : Int) ≤ most ∧ most ≤ 640 ∧ ∀ H', Keep [] H H' → Q (.int i) H'
theorem ok_num (h : Has K mg "number_of" sNum) (B : Blt mg) (cF : ∃ t, mg "FIGURES" = some (.str figT t)) : Can P w K mg base "number_of" ["text", "most"] 1 spNum := by
  obtain ⟨f, fd, F, g⟩ := h
  refine ⟨f, fd, F.ok (k := 0) scNum (fun vs H Q E h => ?_) (fun cdv A outer s H vs Q E hr h => ?_), g, F.kp, F.binds fun _ _ _ _ _ _ us hl => match us, hl with | [_, _], _ => rfl⟩
  · obtain ⟨i, most, rfl, _⟩ := h
    rfl
  · obtain ⟨i, most, rfl, i0, hl, hm, q⟩ := h
    refine ⟨_, pss_cons (ps_if (PW.pt (pw_or (pt_not (pt_chain op_le op_le pe_int (pe_callB call_len_str (by rfl) B.len_ PySem.boot_len (pa_cons (pv 0) pa_nil)) (pv 1))) (pw_or1 (pt_not (pt_val (pe_callB (cr_all rfl) (by rfl) B.all_ (by decide +kernel) (pa_cons (pe_lc (own := [("sign", 2)]) (g := gName 2) (tt := tYes) rfl scNum.nd (pi_str (pv 0)) (blkOk_by (N := nNum) (sc := defScope sNum) (by decide +kernel)) (fun _ _ _ _ _ => (pg_name (i := 2) scNum.nd rfl (by first | exact Or.inl rfl | exact Or.inr rfl))) (fun _ _ _ _ _ => pts_nil) (fun _ _ _ _ _ => (pe_cmpR op_in_sign (pv 2) (pe_glob (v := .str figT) rfl cF.choose_spec ⟨_, rfl⟩) rfl))) pa_nil))))))) (pss_one (ps_ret pe_non)) pss_nil)
      (pss_cons (ps_if (PW.pt (pw_and (pt_cmpR op_eq (pe_ix ix_str (pv 0) pe_int (fun _ _ => rfl)) pe_str (nomark _)) (pw_and1 (pt_cmpR op_gt (pe_callB call_len_str (by rfl) B.len_ PySem.boot_len (pa_cons (pv 0) pa_nil)) pe_int (nomark _))))) (pss_one (ps_ret pe_non)) pss_nil)
      (pss_one (ps_ret (pe_callTy call_int_str (by rfl) B.int_ boot_int (pa_cons (pv 0) pa_nil))))), ?_⟩
    have l1 := tx_pos i0
    have lz : (tx i).length ≤ sizeLine := Nat.le_trans (by omega : _ ≤ 1000) (show 1000 ≤ sizeLine by decide)
    refine ⟨.str (tx i), rfl, tx i, rfl, lz, 1, _, rfl, rfl, _, rfl, ?_⟩
    rw [decide_eq_true (show (1 : Int) ≤ ((tx i).length : Int) by omega)]
    refine iteT ?_
    refine ⟨.int most, rfl, _, _, rfl, rfl, _, rfl, ?_⟩
    rw [decide_eq_true hl]
    dsimp only [Bool.not_true]
    refine iteF ?_
    refine ⟨.str (tx i), rfl, tx i, rfl, fun W nW => ?_⟩
    refine lc_txt (fun j G => Keep [] H G ∧ G W = some (.lst ((List.replicate j true).map V.bl))) ⟨Keep.new nW, upd_same⟩ (fun j c G hc z => ?_) (fun G z => ?_)
    · refine ⟨rfl, .str ⟨#[c]⟩, rfl, c, figT, rfl, rfl, ?_⟩
      have hd := tx_dig i0 c (List.mem_of_getElem? hc)
      have hj : j < (tl (tx i)).length := (List.getElem?_eq_some_iff.mp hc).1
      rw [← len_tl] at hj
      refine ⟨_, z.2, by rw [List.length_map, List.length_replicate]; exact Nat.lt_of_lt_of_le hj lz, z.1.upd nW, ?_⟩
      rw [upd_same, fig_in hd, List.replicate_succ', List.map_append]; rfl
    · refine ⟨W, List.replicate (tl (tx i)).length true, rfl, SqL.of z.2, _, rfl, ?_⟩
      have ea : (List.replicate (tl (tx i)).length true).all id = true := by simp
      rw [ea]
      dsimp only [Bool.not_true]
      refine iteF ?_
      obtain ⟨c, r, e, hz⟩ := tx_head i0
      have k1 : Keep [] H G := z.1
      refine ⟨.str (tx i), rfl, tx i, 0, c, rfl, rfl, lz, atI_nat (j := 0) (show (tx i).cps.toList[0]? = some c by rw [show (tx i).cps.toList = c :: r from e]; rfl), rfl, _, rfl, ?_⟩
      by_cases c0 : c = 48
      · have er := hz c0
        subst er
        subst c0
        rw [show decide (V.str ⟨#[48]⟩ = V.str (Str.ofString "0")) = true by decide +kernel]
        refine iteT ?_
        refine ⟨.str (tx i), rfl, tx i, rfl, lz, _, 1, rfl, rfl, _, rfl, ?_⟩
        have : (tx i).length = 1 := by rw [len_tl, e]; rfl
        rw [this]
        refine iteF ?_
        exact ⟨.str (tx i), rfl, tx i, i, rfl, tx_int i0 (by omega), by omega, q G k1⟩
      · rw [show decide (V.str ⟨#[c]⟩ = V.str (Str.ofString "0")) = false from decide_eq_false (fun e => by
          injection e with e
          have : tl (⟨#[c]⟩ : Str) = tl (Str.ofString "0") := by rw [e]
          rw [show tl (Str.ofString "0") = [48] by decide +kernel] at this
          injection this with this; exact c0 this)]
        refine iteF ?_
        exact ⟨.str (tx i), rfl, tx i, i, rfl, tx_int i0 (by omega), by omega, q G k1⟩
end
end Rw

namespace Rw
open PySem PySem.Spec PyProof.Rows L2 TL
end Rw

namespace Rw
open PySem PySem.Spec PyProof.Rows L2 TL
theorem units65 {k : Nat} {A : Around} (r : Room k A) : A.units + 65 < cLine := by have := r.un; omega
def ktx (k : Int × Int) : Str := tx k.1 ++ crossT ++ tx k.2
def okK (k : Int × Int) : Prop := 0 ≤ k.1 ∧ k.1 < 1000000000000000 ∧ 0 ≤ k.2 ∧ k.2 < 1000000000000000
def rtx (l : Int) (ks : List (Int × Int)) : Str := Txt.join blankT (tx l :: ks.map ktx)
def ropeD (l : Int) (ks : List (Int × Int)) : PyData := .tuple [.int l, .tuple (ks.map prD)]
theorem emp_app (a : Str) : Str.empty ++ a = a := ext_tl (by rw [tl_append]; rfl)
theorem cross_len : crossT.length = 1 := by decide +kernel
theorem blank_len : blankT.length = 1 := by decide +kernel
theorem ktx_len {k : Int × Int} (h : okK k) : (ktx k).length ≤ 31 := by
  have h1 := len15 h.1 h.2.1
  have h2 := len15 h.2.2.1 h.2.2.2
  have := cross_len
  unfold ktx
  rw [len_app, len_app]; omega
theorem ktx_free {k : Int × Int} (h : okK k) : 32 ∉ tl (ktx k) := by
  unfold ktx
  rw [tl_append, tl_append, cross_tl]
  intro m
  rcases List.mem_append.mp m with m | m
  · rcases List.mem_append.mp m with m | m
    · exact tx_free h.1 (by decide) m
    · simp at m
  · exact tx_free h.2.2.1 (by decide) m
theorem sum_len : ∀ {ys : List Str}, (∀ y ∈ ys, y.length ≤ 31) → (ys.map (·.length)).sum ≤ 31 * ys.length
  | [], _ => Nat.le_refl _
  | y :: ys, h => by
    have h1 := h y List.mem_cons_self
    have h2 := sum_len (ys := ys) fun z m => h z (List.mem_cons_of_mem _ m)
    rw [List.map_cons, List.sum_cons, List.length_cons]; omega
theorem join_len (y : Str) : ∀ (ys : List Str), (Txt.join y ys).length ≤ (ys.map (·.length)).sum + ys.length * y.length
  | [] => by rw [join_eq, len_tl, tl_join]; exact Nat.zero_le _
  | [a] => by rw [join_one]; show a.length ≤ a.length + 0 + 1 * y.length; omega
  | a :: b :: l => by
    have ih := join_len y (b :: l)
    have e : Txt.join y (a :: b :: l) = a ++ y ++ Txt.join y (b :: l) := by
      rw [join_eq, join_eq]
      refine ext_tl ?_
      rw [tl_join, tl_append, tl_append, tl_join]
      simp [joinL]
    rw [e, len_app, len_app, List.map_cons, List.sum_cons, List.length_cons]
    have : (l.length + 1 + 1) * y.length = (l.length + 1) * y.length + y.length := by rw [Nat.succ_mul]
    rw [List.length_cons] at ih ⊢
    omega
theorem lst_step {av : List Addr} {G G2 : Hp} {W : Addr} {vs : List V} {y : V} {ds : List PyData} {d : PyData} (dv : Dts (W :: av) G vs ds) (k : Keep (W :: av) G G2) (dy : Dt (W :: av) G2 y d) : Dts (W :: av) (upd G2 W (.lst (vs ++ [y]))) (vs ++ [y]) (ds ++ [d]) :=
  ((dv.keep k).app (.cons dy .nil)).keep (Keep.put List.mem_cons_self)
theorem tup_lay (p : List Int) : PyData.canLay0 (tupI p) = true := by
  show PyData.canLay0 (.tuple (p.map .int)) = true
  simp only [PyData.canLay0, tupI_lay p]
theorem tup_depth (p : List Int) : PyData.depth (tupI p) = 1 := by
  show PyData.depth (.tuple (p.map .int)) = 1
  simp [PyData.depth, tupI_depths p]
section
variable {P : Program} {w : World} {K : PySem.W.Frag} {mg : Str → Option Value} {base : Heap}
abbrev sPT : Stmt := topS 29
abbrev nPT : List Str := ["pairs", "where", "size"]
theorem scPT : FnScope nPT ["pairs"] (defScope sPT) := ⟨rfl, rfl, rfl, by decide +kernel, rfl, by decide +kernel, by decide +kernel⟩
def spPT : Sp := fun vs H Q _ => ∃ (v : V) (ks : List (Int × Int)), vs = [v] ∧ Dt [] H v (.tuple (ks.map prD)) ∧ (∀ k ∈ ks, okK k) ∧ ks.length ≤ 4 ∧ ∀ H' (r : Addr), Keep [] H H' → H' r = some (.lst ((ks.map ktx).map V.str)) → Q (.ref r) H'
theorem ok_pT (h : Has K mg "pair_texts" sPT) (B : Blt mg) : Can P w K mg base "pair_texts" ["pairs"] 1 spPT := by
  obtain ⟨f, fd, F, g⟩ := h
  refine ⟨f, fd, F.ok (k := 0) scPT (fun vs H Q E h => ?_) (fun cdv A outer s H vs Q E hr h => ?_), g, F.kp, F.binds fun _ _ _ _ _ _ us hl => match us, hl with | [_], _ => rfl⟩
  · obtain ⟨v, ks, rfl, _⟩ := h
    rfl
  · obtain ⟨v, ks, rfl, hv, okk, lk, q⟩ := h
    refine ⟨_, pss_one (ps_ret (pe_lc (own := [("where", 1), ("size", 2)]) (tt := tYes) rfl scPT.nd (pi_tup (pv 0)) (blkOk_by (N := nPT) (sc := defScope sPT) (by decide +kernel)) (fun _ _ _ _ _ => (pg_tupK (K := K) (n := 2) rfl (by rfl) (pgs_cons (pg_name (i := 1) scPT.nd rfl (by first | exact Or.inl rfl | exact Or.inr rfl)) (pgs_cons (pg_name (i := 2) scPT.nd rfl (by first | exact Or.inl rfl | exact Or.inr rfl)) pgs_nil)))) (fun _ _ _ _ _ => pts_nil) (fun _ _ _ _ _ => (pe_joined (PJ.cons (pe_fmt (pv 1)) (PJ.cons pe_str (PJ.cons (pe_fmt (pv 2)) PJ.nil))))))), ?_⟩
    obtain ⟨a, xs, rfl, _, ea, da⟩ := tup_at hv
    have lx := da.len
    rw [List.length_map] at lx
    refine ⟨.ref a, rfl, a, rfl, ⟨_, SqT.of ea⟩, fun W nW => ?_⟩
    refine lc_tup (K := K) (a := a) (xs := xs) (te := fun σ H Q => tJs [tFmt (tVar 1), tC (V.str (Str.ofString "x")), tFmt (tVar 2)] Str.empty σ H fun out H1 => Q (V.str out) H1) (fun i G => Keep [] H G ∧ G W = some (.lst (((ks.take i).map ktx).map V.str))) ⟨Keep.new nW, upd_same⟩ (fun i G _ z => SqT.of (z.1 a _ ea List.not_mem_nil)) (fun i x G hx z => ?_) (fun G z => ?_)
    · obtain ⟨d, hd, dx⟩ := da.getv i hx
      rw [List.getElem?_map] at hd
      obtain ⟨k, gk, rfl⟩ := Option.map_eq_some_iff.mp hd
      obtain ⟨b, ys, rfl, _, eb, db⟩ := tup_at dx
      have hys : ys = [.int k.1, .int k.2] := Dts.unints (ns := [k.1, k.2]) db
      subst hys
      have ok := okk k (List.mem_of_getElem? gk)
      have hi : i < ks.length := (List.getElem?_eq_some_iff.mp gk).1
      have h1 := len15 ok.1 ok.2.1
      have h2 := len15 ok.2.2.1 ok.2.2.2
      have h3 := cross_len
      refine ⟨b, _, rfl, SqT.of (z.1 b _ eb List.not_mem_nil), rfl, _, _, rfl, _, [], rfl, rfl, rfl, ?_⟩
      have sz : (4000 : Nat) ≤ sizeLine := by decide
      refine ⟨.int k.1, rfl, .inr ⟨k.1, rfl, tx_log ok.1 (Int.le_of_lt ok.2.1), tx k.1, rfl, ?_, crossT, rfl, ?_, .int k.2, rfl, .inr ⟨k.2, rfl, tx_log ok.2.2.1 (Int.le_of_lt ok.2.2.2), tx k.2, rfl, ?_, ?_⟩⟩⟩
      · rw [emp_app]; omega
      · rw [emp_app, len_app]; omega
      · rw [emp_app, len_app, len_app]; omega
      · refine ⟨_, z.2, ?_, z.1.upd nW, ?_⟩
        · rw [List.length_map, List.length_map, List.length_take]; exact small1000 (by omega)
        · rw [upd_same, List.take_add_one, gk, List.map_append, List.map_append, emp_app]; rfl
    · refine q G W z.1 ?_
      have z2 := z.2
      rw [lx, List.take_length] at z2
      exact z2
abbrev sPO : Stmt := topS 32
abbrev nPO : List Str := ["word", "first", "cross", "second", "pair"]
theorem scPO : FnScope nPO ["word"] (defScope sPO) := ⟨rfl, rfl, rfl, by decide +kernel, rfl, by decide +kernel, by decide +kernel⟩
def spPO : Sp := fun vs H Q _ => ∃ (k : Int × Int), vs = [.str (ktx k)] ∧ okK k ∧ ∀ H' (r : Addr), Keep [] H H' → H' r = some (.tup [.int k.1, .int k.2]) → Q (.ref r) H'
theorem ok_pO (h : Has K mg "pair_of" sPO) (B : Blt mg) (cM : ∃ t, mg "MOST" = some (.int 15 t)) (CN : Can P w K mg base "number_of" ["text", "most"] 1 spNum) : Can P w K mg base "pair_of" ["word"] 2 spPO := by
  obtain ⟨f, fd, F, g⟩ := h
  refine ⟨f, fd, F.ok (k := 1) scPO (fun vs H Q E h => ?_) (fun cdv A outer s H vs Q E hr h => ?_), g, F.kp, F.binds fun _ _ _ _ _ _ us hl => match us, hl with | [_], _ => rfl⟩
  · obtain ⟨k, rfl, _⟩ := h
    rfl
  · obtain ⟨k, rfl, ok, q⟩ := h
    refine ⟨_, pss_cons (ps_asg (pe_partition (pv 0) pe_str) (pg_tup (by rfl) (pgs_cons (pg_name (i := 1) scPO.nd rfl (by first | exact Or.inl rfl | exact Or.inr rfl)) (pgs_cons (pg_name (i := 2) scPO.nd rfl (by first | exact Or.inl rfl | exact Or.inr rfl)) (pgs_cons (pg_name (i := 3) scPO.nd rfl (by first | exact Or.inl rfl | exact Or.inr rfl)) pgs_nil)))))
      (pss_cons (ps_set (i := 4) scPO.nd rfl (by first | exact Or.inl rfl | exact Or.inr rfl) (pe_tup (pa_cons (pe_can CN (hr.mono (by decide)) (by rfl) (pa_cons (pv 1) (pa_cons (pe_glob (v := .int 15) rfl cM.choose_spec ⟨_, rfl⟩) pa_nil))) (pa_cons (pe_can CN (hr.mono (by decide)) (by rfl) (pa_cons (pv 3) (pa_cons (pe_glob (v := .int 15) rfl cM.choose_spec ⟨_, rfl⟩) pa_nil))) pa_nil))))
      (pss_one (ps_ret (pe_ifExp (pt_cmpR op_in_seq pe_non (pv 4) rfl) pe_non (pv 4))))), ?_⟩
    have lz : (ktx k).length ≤ sizeLine := Nat.le_trans (ktx_len ok) (show 31 ≤ sizeLine by decide)
    have h1 := len15 ok.1 ok.2.1
    have h2 := len15 ok.2.2.1 ok.2.2.2
    refine ⟨_, rfl, ⟨_, rfl⟩, ktx k, crossT, rfl, rfl, by decide +kernel, lz, fun T nT => ?_⟩
    have e : Txt.partition (ktx k) crossT = (tx k.1, crossT, tx k.2) := partition_app cross_tl (tx_free ok.1 (by decide))
    rw [e]
    have k1 : Keep [] H (upd H T (.tup [.str (tx k.1), .str crossT, .str (tx k.2)])) := Keep.new nT
    refine ⟨T, _, rfl, SqT.of upd_same, rfl, _, _, rfl, _, _, rfl, _, [], rfl, rfl, ?_⟩
    generalize upd H T (.tup [.str (tx k.1), .str crossT, .str (tx k.2)]) = H1 at k1 ⊢
    refine ⟨_, rfl, k.1, 15, rfl, ok.1, by omega, by decide, fun H2 k2 => ?_⟩
    refine ⟨_, rfl, k.2, 15, rfl, ok.2.2.1, by omega, by decide, fun H3 k3 => ?_⟩
    refine ⟨show 2 ≤ sizeLine by decide, fun R nR => ?_⟩
    refine ⟨.ref R, rfl, R, _, rfl, .inr (SqT.of upd_same), rfl, rfl, _, rfl, iteF ?_⟩
    exact ⟨.ref R, rfl, q _ R (k1.trans (k2.trans (k3.trans (Keep.new nR)))) upd_same⟩
end
end Rw

namespace Rw
open PySem PySem.Spec PyProof.Rows L2 TL
end Rw

namespace Rw
open PySem PySem.Spec PyProof.Rows L2 TL
def rising (lo hi : Int) : List (Int × Int) → Prop
  | [] => True
  | k :: ks => lo ≤ k.1 ∧ k.1 ≤ hi ∧ rising (k.1 + 1) hi ks
def okR (l : Int) (ks : List (Int × Int)) : Prop := 1 ≤ l ∧ l ≤ 100000000000000 ∧ rising 0 l ks ∧ (∀ k ∈ ks, 1 ≤ k.2 ∧ k.2 ≤ 1000000) ∧ ks.length ≤ 4
theorem rising_in : ∀ {ks : List (Int × Int)} {lo hi : Int}, rising lo hi ks → ∀ k ∈ ks, lo ≤ k.1 ∧ k.1 ≤ hi
  | [], _, _, _, k, m => nomatch m
  | p :: ks, lo, hi, h, k, m => by
    rcases List.mem_cons.mp m with rfl | m
    · exact ⟨h.1, h.2.1⟩
    · have := rising_in h.2.2 k m
      have := h.1
      omega
theorem okR_K {l : Int} {ks : List (Int × Int)} (h : okR l ks) : ∀ k ∈ ks, okK k := fun k m => by
  obtain ⟨l1, l2, r, s, _⟩ := h
  have h1 := rising_in r k m
  have h2 := s k m
  exact ⟨h1.1, by omega, by omega, by omega⟩
theorem drop_rest {ks : List (Int × Int)} {i : Nat} {k : Int × Int} (h : ks[i]? = some k) : ks.drop i = k :: ks.drop (i + 1) := by
  obtain ⟨hl, e⟩ := List.getElem?_eq_some_iff.mp h
  rw [List.drop_eq_getElem_cons hl, e]
theorem pr_at {H : Hp} {x : V} {k : Int × Int} (dx : Dt [] H x (prD k)) : ∃ b, x = .ref b ∧ H b = some (.tup [.int k.1, .int k.2]) := by
  obtain ⟨b, ys, rfl, _, eb, db⟩ := tup_at dx
  have hys : ys = [.int k.1, .int k.2] := Dts.unints (ns := [k.1, k.2]) db
  subst hys
  exact ⟨b, rfl, eb⟩
theorem within_yes {i lo hi : Int} (h1 : lo ≤ i) (h2 : i ≤ hi) : within (.int i) lo hi = true := by
  show (decide (lo ≤ i) && decide (i ≤ hi)) = true
  rw [decide_eq_true h1, decide_eq_true h2]; rfl
end Rw

namespace Rw
open PySem PySem.Spec PyProof.Rows L2 TL
theorem join_cons (y a b : Str) (l : List Str) : Txt.join y (a :: b :: l) = a ++ y ++ Txt.join y (b :: l) := by
  rw [join_eq, join_eq]
  refine ext_tl ?_
  rw [tl_join, tl_append, tl_append, tl_join]
  simp [joinL]
theorem join_snoc (y b : Str) : ∀ (a : Str) (l : List Str), Txt.join y (a :: (l ++ [b])) = Txt.join y (a :: l) ++ y ++ b
  | a, [] => by rw [List.nil_append, join_two, join_one]
  | a, c :: l => by
    rw [List.cons_append, join_cons, join_snoc y b c l, join_cons, app_assoc, app_assoc, app_assoc, app_assoc, app_assoc]
theorem rtx_nil (l : Int) : rtx l [] = tx l := join_one _ _
theorem rtx_snoc (l : Int) (ks : List (Int × Int)) (k : Int × Int) : rtx l (ks ++ [k]) = rtx l ks ++ blankT ++ tx k.1 ++ crossT ++ tx k.2 := by
  unfold rtx
  rw [List.map_append, List.map_cons, List.map_nil, join_snoc]
  unfold ktx
  rw [app_assoc, app_assoc, app_assoc, app_assoc, app_assoc]
def small (x : Str) : Prop := ∀ c ∈ tl x, c < 128
theorem small.app {a b : Str} (h1 : small a) (h2 : small b) : small (a ++ b) := fun c m => by
  rw [tl_append] at m
  rcases List.mem_append.mp m with m | m
  · exact h1 c m
  · exact h2 c m
theorem small_tx {i : Int} (h : 0 ≤ i) : small (tx i) := fun c m => by have := tx_dig h c m; omega
theorem small_plus : small plusT := fun c m => by rw [plus_tl] at m; rw [List.mem_singleton.mp m]; decide
theorem small_blank : small blankT := fun c m => by rw [blank_tl] at m; rw [List.mem_singleton.mp m]; decide
theorem small_cross : small crossT := fun c m => by rw [cross_tl] at m; rw [List.mem_singleton.mp m]; decide
theorem small_ptx {p : List Int} (h : okT p) : small (ptx p) := by
  rcases okT_cases h with ⟨r, rfl, r0, r1⟩ | ⟨i, a, rfl, i0, i1, a0, a1⟩
  · exact small_tx r0
  · exact ((small_tx i0).app small_plus).app (small_tx (by omega))
theorem rtx_ok0 (l : Int) (l0 : 0 ≤ l) (l1 : l < 1000000000000000) : ∀ (n : Nat) (ks : List (Int × Int)), ks.length = n → (∀ k ∈ ks, okK k) → small (rtx l ks) ∧ (rtx l ks).length ≤ 15 + 32 * n
  | 0, ks, e, _ => by
    rw [List.eq_nil_of_length_eq_zero e, rtx_nil]
    exact ⟨small_tx l0, len15 l0 l1⟩
  | n + 1, ks, e, h => by
    rcases List.eq_nil_or_concat ks with rfl | ⟨ks', k, rfl⟩
    · cases e
    · rw [List.concat_eq_append] at e h ⊢
      rw [List.length_append] at e
      obtain ⟨h1, h2⟩ := rtx_ok0 l l0 l1 n ks' (by simpa using e) fun z m => h z (List.mem_append_left _ m)
      have hk := h k (List.mem_append_right _ List.mem_cons_self)
      rw [rtx_snoc]
      have a1 := len15 hk.1 hk.2.1
      have a2 := len15 hk.2.2.1 hk.2.2.2
      have a3 := cross_len
      have a4 := blank_len
      refine ⟨(((h1.app small_blank).app (small_tx hk.1)).app small_cross).app (small_tx hk.2.2.1), ?_⟩
      rw [len_app, len_app, len_app, len_app]
      omega
theorem rtx_ok (l : Int) (ks : List (Int × Int)) (l0 : 0 ≤ l) (l1 : l < 1000000000000000) (h : ∀ k ∈ ks, okK k) : small (rtx l ks) ∧ (rtx l ks).length ≤ 15 + 32 * ks.length := rtx_ok0 l l0 l1 _ ks rfl h
theorem repr_fits {x : Str} (h : small x) (hl : x.length ≤ 1000) : (reprText x).length ≤ sizeLine :=
  Nat.le_trans (StrLaws.reprText_len x fun c m => Nat.lt_of_lt_of_le (h c m) (by decide)) (Nat.le_trans (by omega : _ ≤ 20000) (show 20000 ≤ sizeLine by decide))
section
variable {P : Program} {w : World} {K : PySem.W.Frag} {mg : Str → Option Value} {base : Heap}
inductive IR : Nat → PyData → Prop
  | int (m : Nat) {i : Int} : i.natAbs.log2 < 1920 → IR m (.int i)
  | str (m : Nat) {x : Str} : (reprText x).length ≤ sizeLine → IR m (.str x)
  | tup {m : Nat} {ds : List PyData} : ds.length ≤ 1000 → (∀ d ∈ ds, IR m d) → IR (m + 1) (.tuple ds)
abbrev sSame : Stmt := topS 39
abbrev nSame : List Str := ["_law_found", "_law_due", "_law_k"]
theorem scSame : FnScope nSame ["_law_found", "_law_due"] (defScope sSame) := ⟨rfl, rfl, rfl, by decide +kernel, rfl, by decide +kernel, by decide +kernel⟩
def spSame (m : Nat) : Sp := fun vs H Q _ => ∃ (v u : V) (d : PyData), vs = [v, u] ∧ Dt [] H v d ∧ Dt [] H u d ∧ IR m d ∧ ∀ H', Keep [] H H' → Q (.bl true) H'
theorem same_flat {f : Addr} {fd : FuncData} (F : Fun K "_law_same" "_law_same" sSame f fd) (B : Blt mg) {k : Nat} {cdv : Value} {A : Around} {outer : List Env} {s : Shared} {H : Hp} {Q : VK} {E : XK} {v u : V} {m : Nat} {d : PyData} (hr : Room k (A.deeper (envOfC "_law_same" (defScope sSame) s.heap.objs.size f cdv))) (hv : Dt [] H v d) (hu : Dt [] H u d) (it : IR m d) (nt : aTup d = false) (q : ∀ H', Keep [] H H' → Q (.bl true) H') :
    ∃ t, PSs (cxOf CX0 P w K mg base nSame "_law_same" (defScope sSame) f cdv A outer s H E).nox (defBody sSame) t ∧ t { nx := fun _ H' => Q .non H', rt := Q } (L2.start nSame [v, u]) H := by
  cases it with
  | tup _ _ => cases nt
  | int _ hi =>
    rename_i i
    cases hv
    cases hu
    refine ⟨_, (pss_cons (ps_if (pt_val (pe_callB (call_isD kit_tup) (by rfl) B.isi boot_isinstance (pa_cons (pv 1) (pa_cons (pe_bltn (v := .ty "tuple") (by rfl) B.tuple_ boot_tuple rfl) pa_nil)))) (pss_cons ps_never (pss_one ps_never)) pss_nil)
      (pss_one (ps_ret (pe_cmpR op_eq (pe_callB SkE.call_repr_int (by rfl) B.repr_ boot_repr (pa_cons (pv 0) pa_nil)) (pe_callB SkE.call_repr_int (by rfl) B.repr_ boot_repr (pa_cons (pv 1) pa_nil)) (nomark _))))), ?_⟩
    refine ⟨.int i, rfl, .int i, .int i, [], rfl, .int i, _, rfl, iteF ?_⟩
    refine ⟨.int i, rfl, i, rfl, hi, .int i, rfl, i, rfl, hi, rfl, ?_⟩
    rw [decide_eq_true (rfl : V.str (tx i) = V.str (tx i))]
    exact q _ (Keep.refl _ _)
  | str _ hi =>
    rename_i x
    cases hv
    cases hu
    refine ⟨_, (pss_cons (ps_if (pt_val (pe_callB (call_isD kit_tup) (by rfl) B.isi boot_isinstance (pa_cons (pv 1) (pa_cons (pe_bltn (v := .ty "tuple") (by rfl) B.tuple_ boot_tuple rfl) pa_nil)))) (pss_cons ps_never (pss_one ps_never)) pss_nil)
      (pss_one (ps_ret (pe_cmpR op_eq (pe_callB cr_repr_str (by rfl) B.repr_ boot_repr (pa_cons (pv 0) pa_nil)) (pe_callB cr_repr_str (by rfl) B.repr_ boot_repr (pa_cons (pv 1) pa_nil)) (nomark _))))), ?_⟩
    refine ⟨.str x, rfl, .str x, .str x, [], rfl, .str x, _, rfl, iteF ?_⟩
    refine ⟨.str x, rfl, x, rfl, hi, .str x, rfl, x, rfl, hi, rfl, ?_⟩
    rw [decide_eq_true (rfl : V.str (reprText x) = V.str (reprText x))]
    exact q _ (Keep.refl _ _)
theorem ok_same (h : Has K mg "_law_same" sSame) (B : Blt mg) : ∀ m, Can P w K mg base "_law_same" ["_law_found", "_law_due"] (m + 1) (spSame m) := by
  intro m
  obtain ⟨f, fd, F, g⟩ := h
  induction m with
  | zero =>
    refine ⟨f, fd, F.ok (k := 0) scSame (fun vs H Q E h => ?_) (fun cdv A outer s H vs Q E hr h => ?_), g, F.kp, F.binds fun _ _ _ _ _ _ us hl => match us, hl with | [_, _], _ => rfl⟩
    · obtain ⟨v, u, d, rfl, _⟩ := h
      rfl
    · obtain ⟨v, u, d, rfl, hv, hu, it, q⟩ := h
      have nt : aTup d = false := by cases it <;> rfl
      exact same_flat F B hr hv hu it nt q
  | succ m ih =>
    refine ⟨f, fd, F.ok (k := m + 1) scSame (fun vs H Q E h => ?_) (fun cdv A outer s H vs Q E hr h => ?_), g, F.kp, F.binds fun _ _ _ _ _ _ us hl => match us, hl with | [_, _], _ => rfl⟩
    · obtain ⟨v, u, d, rfl, _⟩ := h
      rfl
    · obtain ⟨v, u, d, rfl, hv, hu, it, q⟩ := h
      cases it with
      | int _ hi => exact same_flat F B hr hv hu (.int 0 hi) rfl q
      | str _ hi => exact same_flat F B hr hv hu (.str 0 hi) rfl q
      | tup ln hd =>
        rename_i ds
        have C0 := ih
        refine ⟨_, pss_cons (ps_if (pt_val (pe_callB (call_isD kit_tup) (by rfl) B.isi boot_isinstance (pa_cons (pv 1) (pa_cons (pe_bltn (v := .ty "tuple") (by rfl) B.tuple_ boot_tuple rfl) pa_nil))))
          (pss_cons (ps_if (PW.pt (pw_or (pt_not (pt_val (pe_callB (call_isD kit_tup) (by rfl) B.isi boot_isinstance (pa_cons (pv 0) (pa_cons (pe_bltn (v := .ty "tuple") (by rfl) B.tuple_ boot_tuple rfl) pa_nil))))) (pw_or1 (pt_cmpR op_ne (pe_callB call_len_seq (by rfl) B.len_ PySem.boot_len (pa_cons (pv 0) pa_nil)) (pe_callB call_len_seq (by rfl) B.len_ PySem.boot_len (pa_cons (pv 1) pa_nil)) (nomark _))))) (pss_one (ps_ret pe_bl)) pss_nil)
          (pss_one (ps_ret (pe_cmpR (op_eqNilL hr.units0) (pe_lc (own := [("_law_k", 2)]) (g := gName 2) rfl scSame.nd (pi_range1 (by rfl) B.range_ (pa_cons (pe_callB call_len_seq (by rfl) B.len_ PySem.boot_len (pa_cons (pv 1) pa_nil)) pa_nil)) (blkOk_by (N := nSame) (sc := defScope sSame) (by decide +kernel)) (fun _ _ _ _ _ => pg_name (i := 2) scSame.nd rfl (Or.inl rfl)) (fun _ _ _ _ _ => pts_one (pt_not (pt_val (pe_can C0 hr (by rfl) (pa_cons (pe_ix (ix_tupK (K := K) rfl) (pv 0) (pv 2) (fun _ _ => rfl)) (pa_cons (pe_ix (ix_tupK (K := K) rfl) (pv 1) (pv 2) (fun _ _ => rfl)) pa_nil)))))) (fun _ _ _ _ _ => (pv 2))) (pe_lst pa_nil) (nomark _))))) pss_nil)
          (pss_one ps_never), ?_⟩
        obtain ⟨a, xs, rfl, _, ea, da⟩ : ∃ (a : Addr) (xs : List V), v = .ref a ∧ a ∉ ([] : List Addr) ∧ H a = some (.tup xs) ∧ Dts [] H xs ds := by cases hv with | tup n e d => exact ⟨_, _, rfl, n, e, d⟩
        obtain ⟨b, ys, rfl, _, eb, db⟩ : ∃ (a : Addr) (xs : List V), u = .ref a ∧ a ∉ ([] : List Addr) ∧ H a = some (.tup xs) ∧ Dts [] H xs ds := by cases hu with | tup n e d => exact ⟨_, _, rfl, n, e, d⟩
        have la := da.len
        have lb := db.len
        refine ⟨.ref b, rfl, _, _, [], rfl, hu, _, rfl, iteT ?_⟩
        refine ⟨.ref a, rfl, _, _, [], rfl, hv, _, rfl, iteF ?_⟩
        refine ⟨.ref a, rfl, a, _, rfl, .inr (SqT.of ea), .ref b, rfl, b, _, rfl, .inr (SqT.of eb), rfl, _, rfl, ?_⟩
        rw [la, lb]
        refine iteNS rfl ?_
        refine ⟨.ref b, rfl, b, _, rfl, .inr (SqT.of eb), _, rfl, by omega, by omega, fun W nW => ?_⟩
        refine lc_range (lo := 0) (n := ((ys.length : Int)).toNat) (fun i G => Keep [] H G ∧ G W = some (.lst [])) ⟨Keep.new nW, upd_same⟩ (fun j J hj p => ?_) (fun J p => ?_)
        · have lj : j < ds.length := by omega
          have gd : ds[j]? = some ds[j] := List.getElem?_eq_getElem lj
          obtain ⟨va, gva, dva⟩ := da.get j gd
          obtain ⟨vb, gvb, dvb⟩ := db.get j gd
          have ej : (0 + (j : Int)).toNat = j := by omega
          refine ⟨rfl, .ref a, rfl, .int (0 + (j : Int)), rfl, a, _, 0 + (j : Int), va, rfl, rfl, SqT.of (p.1 a _ ea List.not_mem_nil), atI_of (by omega) (by rw [ej]; exact gva), .ref b, rfl, .int (0 + (j : Int)), rfl, b, _, 0 + (j : Int), vb, rfl, rfl, SqT.of (p.1 b _ eb List.not_mem_nil), atI_of (by omega) (by rw [ej]; exact gvb), va, vb, ds[j], rfl, dva.keep p.1, dvb.keep p.1, hd _ (List.getElem_mem lj), fun J2 k2 => ⟨_, rfl, iteF ?_⟩⟩
          exact ⟨p.1.trans k2, k2 W _ p.2 List.not_mem_nil⟩
        · refine ⟨show 0 ≤ sizeLine by decide, fun z nz => ?_⟩
          exact ⟨W, z, [], rfl, rfl, SqL.of (st nz p.2), SqL.of upd_same, q _ (p.1.trans (Keep.new nz))⟩
end
end Rw

namespace Rw
open PySem PySem.Spec PyProof.Rows L2 TL
end Rw

namespace Rw
open PySem PySem.Spec PyProof.Rows L2
/-! the deck: cells, how many are used, what is left of one, a count (at most b) -/
structure Dq (H : Hp) (D C : Addr) (b : Int) : Prop where
  ex : ∃ (cs : List Int) (j r t : Int), H D = some (.lst [.ref C, .int j, .int r, .int t]) ∧ H C = some (.lst (cs.map V.int)) ∧ cs.length ≤ 63 ∧ (∀ c ∈ cs, 0 ≤ c) ∧ 0 ≤ j ∧ 0 ≤ r ∧ 0 ≤ t ∧ t ≤ b
  ne : D ≠ C
theorem Dq.mono {H : Hp} {D C : Addr} {b b' : Int} (x : Dq H D C b) (h : b ≤ b') : Dq H D C b' := by
  obtain ⟨⟨cs, j, r, t, e1, e2, e3, e4, e5, e6, e7, e8⟩, n⟩ := x
  exact ⟨⟨cs, j, r, t, e1, e2, e3, e4, e5, e6, e7, by omega⟩, n⟩
theorem Dq.keep {H H' : Hp} {D C : Addr} {b : Int} (x : Dq H D C b) (k : Keep [] H H') : Dq H' D C b := by
  obtain ⟨⟨cs, j, r, t, e1, e2, z⟩, n⟩ := x
  exact ⟨⟨cs, j, r, t, k _ _ e1 List.not_mem_nil, k _ _ e2 List.not_mem_nil, z⟩, n⟩
theorem Dq.other {H : Hp} {D C p : Addr} {b : Int} {o : HO} (x : Dq H D C b) (h1 : p ≠ D) (h2 : p ≠ C) : Dq (upd H p o) D C b := by
  obtain ⟨⟨cs, j, r, t, e1, e2, z⟩, n⟩ := x
  exact ⟨⟨cs, j, r, t, by rw [upd_ne h1.symm]; exact e1, by rw [upd_ne h2.symm]; exact e2, z⟩, n⟩
theorem Dq.nes {H : Hp} {D C p : Addr} {b : Int} (x : Dq H D C b) (n : H p = none) : p ≠ D ∧ p ≠ C := by
  obtain ⟨⟨cs, j, r, t, e1, e2, z⟩, _⟩ := x
  exact ⟨(ne_of_none e1 n).symm, (ne_of_none e2 n).symm⟩
theorem Dq.new {H : Hp} {D C p : Addr} {b : Int} {o : HO} (x : Dq H D C b) (n : H p = none) : Dq (upd H p o) D C b := x.other (x.nes n).1 (x.nes n).2
theorem Dq.tr {H : Hp} {D C : Addr} {b : Int} (x : Dq H D C b) : Tr [D] H := fun a m => by
  obtain ⟨⟨cs, j, r, t, e1, e2, z⟩, _⟩ := x
  rw [List.mem_singleton.mp m]; exact ⟨_, e1⟩
theorem pick_at {xs : List Int} {k : Int} (k0 : 0 ≤ k) (k1 : k < (xs.length : Int)) : ∃ v ∈ xs, atI (xs.map V.int) k = some (.int v) := by
  have ge : xs[k.toNat]? = some xs[k.toNat] := List.getElem?_eq_getElem (by omega)
  exact ⟨_, List.getElem_mem _, atI_of k0 (by rw [List.getElem?_map, ge]; rfl)⟩
section
variable {P : Program} {w : World} {K : PySem.W.Frag} {mg : Str → Option Value} {base : Heap}
abbrev sStm : Stmt := topS 37
abbrev nStm : List Str := ["_law_script", "_law_own", "_law_cell"]
theorem scStm : FnScope nStm ["_law_script", "_law_own"] (defScope sStm) := ⟨rfl, rfl, rfl, by decide +kernel, rfl, by decide +kernel, by decide +kernel⟩
def spStm (K : PySem.W.Frag) : Sp := fun vs H Q _ => ∃ (a : Addr) (ns : List Int) (t : Int), vs = [.ref a, .int t] ∧ SqL K H a (ns.map V.int) ∧ 0 ≤ t ∧
  ∀ H' D C, Keep [] H H' → H D = none → H C = none → Dq H' D C t → Q (.ref D) H'
theorem ok_stm (h : Has K mg "_law_stream" sStm) (B : Blt mg) : Can P w K mg base "_law_stream" ["_law_script", "_law_own"] 1 (spStm K) := by
  obtain ⟨f, fd, F, g⟩ := h
  refine ⟨f, fd, F.ok (k := 0) scStm (fun vs H Q E h => ?_) (fun cdv A outer s H vs Q E hr h => ?_), g, F.kp, F.binds fun _ _ _ _ _ _ us hl => match us, hl with | [_, _], _ => rfl⟩
  · obtain ⟨a, ns, t, rfl, _⟩ := h
    rfl
  · obtain ⟨a, ns, t, rfl, hS, t0, q⟩ := h
    refine ⟨_, pss_one (ps_ret (pe_lst (pa_cons (pe_lc (own := [("_law_cell", 2)]) (g := gName 2) (tt := tYes) rfl scStm.nd (pi_list (pe_slice sl_list (pv 0) po_none (po_some pe_int))) (blkOk_by (N := nStm) (sc := defScope sStm) (by decide +kernel)) (fun _ _ _ _ _ => (pg_name (i := 2) scStm.nd rfl (by first | exact Or.inl rfl | exact Or.inr rfl))) (fun _ _ _ _ _ => pts_nil) (fun _ _ _ _ _ => (pe_callB call_abs (by rfl) B.abs_ boot_abs (pa_cons (pv 2) pa_nil)))) (pa_cons pe_int (pa_cons pe_int (pa_cons (pv 1) pa_nil)))))), ?_⟩
    refine ⟨.ref a, rfl, ?_⟩
    dsimp only [tNoPart, tPart]
    refine ⟨63, rfl, a, _, rfl, hS, fun M nM => ?_⟩
    have ec : cutV (ns.map V.int) none (some 63) = (ns.take 63).map V.int := by
      rw [show (some (63 : Int)) = some ((63 : Nat) : Int) from rfl, cut_to, List.map_take]
    rw [ec]
    have eM : (upd H M (.lst ((ns.take 63).map V.int))) M = some (.lst ((ns.take 63).map V.int)) := upd_same
    have k1 : Keep [] H (upd H M (.lst ((ns.take 63).map V.int))) := Keep.new nM
    generalize upd H M (.lst ((ns.take 63).map V.int)) = H1 at eM k1 ⊢
    have l63 : (ns.take 63).length ≤ 63 := by rw [List.length_take]; omega
    generalize ns.take 63 = ms at eM l63 ⊢
    refine ⟨M, rfl, ⟨_, SqL.of eM⟩, fun C nC => ?_⟩
    refine lc_list (K := K) (a := M) (xs := ms.map V.int) (fun i G => Keep [] H1 G ∧ ∃ cs : List Int, cs.length = i ∧ (∀ n ∈ cs, 0 ≤ n) ∧ G C = some (.lst (cs.map V.int)))
      ⟨Keep.new nC, [], rfl, fun _ m => absurd m List.not_mem_nil, upd_same⟩ (fun i G _ p => SqL.of (p.1 M _ eM List.not_mem_nil)) (fun i x G hx p => ?_) (fun G p => ?_)
    · obtain ⟨k2, cs, l2, c2, e2⟩ := p
      rw [List.getElem?_map] at hx
      obtain ⟨n, hn, rfl⟩ := Option.map_eq_some_iff.mp hx
      have hi : i < ms.length := (List.getElem?_eq_some_iff.mp hn).1
      refine ⟨rfl, .int n, rfl, n, rfl, cs.map V.int, e2, by rw [List.length_map]; exact small1000 (by omega), k2.upd nC, cs ++ [if n < 0 then -n else n], by rw [List.length_append, l2]; rfl, fun z hz => ?_, by rw [upd_same, List.map_append]; rfl⟩
      rcases List.mem_append.mp hz with hz | hz
      · exact c2 z hz
      · rw [List.mem_singleton.mp hz]; exact abs_nn n
    · obtain ⟨k2, cs, l2, c2, e2⟩ := p
      rw [List.length_map] at l2
      have k3 := k1.trans k2
      refine ⟨.int t, rfl, show 4 ≤ sizeLine by decide, fun D nD => ?_⟩
      refine q _ D C (k3.trans (Keep.new nD)) (k3.fr nD) (k1.fr nC) ⟨⟨cs, 0, 0, t, upd_same, st nD e2, by omega, c2, Int.le_refl 0, Int.le_refl 0, t0, Int.le_refl t⟩, (ne_of_none e2 nD).symm⟩
abbrev sTk : Stmt := topS 38
abbrev nTk : List Str := ["_law_stream_here", "_law_below", "_law_cells", "_law_at", "_law_rest", "_law_turn", "_law_number"]
theorem scTk : FnScope nTk ["_law_stream_here", "_law_below"] (defScope sTk) := ⟨rfl, rfl, rfl, by decide +kernel, rfl, by decide +kernel, by decide +kernel⟩
def spTk : Sp := fun vs H Q _ => ∃ (D C : Addr) (b m : Int), vs = [.ref D, .int m] ∧ 1 ≤ m ∧ m ≤ 1000000000000000 ∧ Dq H D C b ∧ b ≤ 1000000 ∧
  ∀ H' k, Keep [D] H H' → Dq H' D C (b + 1) → 0 ≤ k → k < m → Q (.int k) H'
theorem ok_tk (h : Has K mg "_law_take" sTk) (B : Blt mg) : Can P w K mg base "_law_take" ["_law_stream_here", "_law_below"] 1 spTk := by
  obtain ⟨f, fd, F, g⟩ := h
  refine ⟨f, fd, F.ok (k := 0) scTk (fun vs H Q E h => ?_) (fun cdv A outer s H vs Q E hr h => ?_), g, F.kp, F.binds fun _ _ _ _ _ _ us hl => match us, hl with | [_, _], _ => rfl⟩
  · obtain ⟨D, C, b, m, rfl, _⟩ := h
    rfl
  · obtain ⟨D, C, b, m, rfl, m1, m2, dk, hb, q⟩ := h
    refine ⟨_, pss_cons (ps_asg (pv 0) (pg_unl (by rfl) (pgs_cons (pg_name (i := 2) scTk.nd rfl (by first | exact Or.inl rfl | exact Or.inr rfl)) (pgs_cons (pg_name (i := 3) scTk.nd rfl (by first | exact Or.inl rfl | exact Or.inr rfl)) (pgs_cons (pg_name (i := 4) scTk.nd rfl (by first | exact Or.inl rfl | exact Or.inr rfl)) (pgs_cons (pg_name (i := 5) scTk.nd rfl (by first | exact Or.inl rfl | exact Or.inr rfl)) pgs_nil))))))
      (pss_cons (ps_asg (pe_op op_add (pv 5) pe_int) (pg_sub (pv 0) pe_int set_list))
      (pss_cons (ps_if (PW.pt (pw_and (pt_cmpR op_eq (pv 4) pe_int (nomark _)) (pw_and1 (pt_cmpR op_lt (pv 3) (pe_callB call_len_seq (by rfl) B.len_ PySem.boot_len (pa_cons (pv 2) pa_nil)) (nomark _))))) (pss_cons (ps_asg (pe_op op_add (pv 3) pe_int) (pg_sub (pv 0) pe_int set_list))
      (pss_one (ps_set (i := 4) scTk.nd rfl (by first | exact Or.inl rfl | exact Or.inr rfl) (pe_op op_mul (pe_ix ix_list (pv 2) (pv 3) (fun _ _ => rfl)) (pe_callTy call_int1 (by rfl) B.int_ boot_int (pa_cons (pe_cmpR op_ge (pe_ix ix_list (pv 2) (pv 3) (fun _ _ => rfl)) (pe_op op_pow pe_int pe_int) (nomark _)) pa_nil)))))) pss_nil)
      (pss_cons (ps_asg (pe_op op_fdivW (pv 4) (pv 1)) (pg_sub (pv 0) pe_int set_list))
      (pss_cons (ps_if (pt_cmpR op_gt (pv 4) pe_int (nomark _)) (pss_one (ps_ret (pe_op op_mod (pv 4) (pv 1)))) pss_nil)
      (pss_cons (ps_set (i := 6) scTk.nd rfl (by first | exact Or.inl rfl | exact Or.inr rfl) (pe_op op_mod (pe_op op_pow (pe_op op_add (pe_op op_mul (pv 5) pe_int) pe_int) pe_int) pe_int))
      (pss_cons (ps_if (pt_cmpR (op_neNilL hr.units0) (pv 2) (pe_lst pa_nil) (nomark _)) (pss_one (ps_set (i := 6) scTk.nd rfl (by first | exact Or.inl rfl | exact Or.inr rfl) (pe_op op_add (pv 6) (pe_op op_mul (pe_op op_mod (pe_ix ix_list (pv 2) (pe_op op_mod (pe_op op_mul (pv 5) pe_int) (pe_callB call_len_seq (by rfl) B.len_ PySem.boot_len (pa_cons (pv 2) pa_nil))) (fun _ _ => rfl)) pe_int) (pe_op op_add (pv 5) pe_int))))) pss_nil)
      (pss_cons (ps_set (i := 6) scTk.nd rfl (by first | exact Or.inl rfl | exact Or.inr rfl) (pe_op op_mod (pv 6) pe_int))
      (pss_one (ps_ret (pe_op op_mod (pe_op op_fdiv (pe_op op_mod (pe_op op_mul (pv 6) (pv 6)) pe_int) pe_int) (pv 1))))))))))), ?_⟩
    obtain ⟨⟨cs, j, r, t, eD, eC, lc, pc, j0, r0, t0, tb⟩, nDC⟩ := dk
    refine ⟨.ref D, rfl, D, _, rfl, SqL.of eD, rfl, _, _, rfl, _, _, rfl, _, _, rfl, _, [], rfl, rfl, ?_⟩
    refine ⟨.int t, rfl, t, 1, rfl, rfl, .ref D, rfl, D, _, 3, 3, rfl, rfl, eD, rfl, ?_⟩
    have eD1 : (upd H D (.lst [.ref C, .int j, .int r, .int (t + 1)])) D = some (.lst [.ref C, .int j, .int r, .int (t + 1)]) := upd_same
    have eC1 : (upd H D (.lst [.ref C, .int j, .int r, .int (t + 1)])) C = some (.lst (cs.map V.int)) := by rw [upd_ne nDC.symm]; exact eC
    have k1 : Keep [D] H (upd H D (.lst [.ref C, .int j, .int r, .int (t + 1)])) := Keep.put (by simp)
    show (_ : Prop)
    generalize hJ1 : upd H D (.lst ([V.ref C, V.int j, V.int r, V.int t].set 3 (V.int (t + 1)))) = J1
    have hJ : upd H D (.lst [.ref C, .int j, .int r, .int (t + 1)]) = J1 := hJ1
    rw [hJ] at eD1 eC1 k1
    clear hJ1 hJ
    refine ⟨.int r, rfl, rfl, _, rfl, ?_⟩
    rcases (by omega : (r = 0 ∧ j < (cs.length : Int)) ∨ (r = 0 ∧ ¬ j < (cs.length : Int)) ∨ r ≠ 0) with ⟨c0, c1⟩ | ⟨c0, c1⟩ | c0
    case' inl =>
      rw [decide_eq_true (show V.int r = V.int 0 by rw [c0])]
      refine iteT ?_
      refine ⟨.int j, rfl, .ref C, rfl, C, _, rfl, .inl (SqL.of eC1), j, _, rfl, rfl, _, rfl, ?_⟩
      rw [List.length_map, decide_eq_true c1]
      refine iteT ?_
      have ge : cs[j.toNat]? = some cs[j.toNat] := List.getElem?_eq_getElem (by omega)
      have cp : 0 ≤ cs[j.toNat] := pc _ (List.getElem_mem _)
      have gv : atI (cs.map V.int) j = some (.int cs[j.toNat]) := atI_of j0 (by rw [List.getElem?_map, ge]; rfl)
      generalize cs[j.toNat] = c at cp gv
      refine ⟨.int j, rfl, j, 1, rfl, rfl, .ref D, rfl, D, _, 1, 1, rfl, rfl, eD1, rfl, ?_⟩
      have eD2 : (upd J1 D (.lst [.ref C, .int (j + 1), .int r, .int (t + 1)])) D = some (.lst [.ref C, .int (j + 1), .int r, .int (t + 1)]) := upd_same
      have eC2 : (upd J1 D (.lst [.ref C, .int (j + 1), .int r, .int (t + 1)])) C = some (.lst (cs.map V.int)) := by rw [upd_ne nDC.symm]; exact eC1
      have k2 : Keep [D] H (upd J1 D (.lst [.ref C, .int (j + 1), .int r, .int (t + 1)])) := k1.trans (Keep.put (by simp))
      show (_ : Prop)
      generalize hJ1 : upd J1 D (.lst ([V.ref C, V.int j, V.int r, V.int (t + 1)].set 1 (V.int (j + 1)))) = J2
      have hJ : upd J1 D (.lst [.ref C, .int (j + 1), .int r, .int (t + 1)]) = J2 := hJ1
      rw [hJ] at eD2 eC2 k2
      clear hJ1 hJ
      refine ⟨.ref C, rfl, .int j, rfl, C, _, j, .int c, rfl, rfl, SqL.of eC2, gv, .ref C, rfl, .int j, rfl, C, _, j, .int c, rfl, rfl, SqL.of eC2, gv, 10, 18, rfl, rfl, ⟨by decide, by decide, by decide⟩, c, _, rfl, rfl, .inr ⟨_, rfl, c, _, rfl, rfl, .inr (by split <;> decide), ?_⟩⟩
      have R0 : 0 ≤ c * (if decide (10 ^ Int.toNat 18 ≤ c) = true then 1 else 0) := Int.mul_nonneg cp (by split <;> decide)
      dsimp only
      generalize c * (if decide (10 ^ Int.toNat 18 ≤ c) = true then 1 else 0) = R at R0 ⊢
      have j0' : 0 ≤ j + 1 := by omega
      generalize j + 1 = j' at eD2 j0'
      generalize r = ro at eD2
    case' inr.inl =>
      rw [decide_eq_true (show V.int r = V.int 0 by rw [c0])]
      refine iteT ?_
      refine ⟨.int j, rfl, .ref C, rfl, C, _, rfl, .inl (SqL.of eC1), j, _, rfl, rfl, _, rfl, ?_⟩
      rw [List.length_map, decide_eq_false c1]
      refine iteF ?_
      obtain ⟨J2, hj⟩ : ∃ J2, J2 = J1 := ⟨_, rfl⟩
      subst hj
      have eD2 := eD1
      have eC2 := eC1
      have k2 := k1
      have R0 := r0
      have j0' := j0
      obtain ⟨R, hR⟩ : ∃ R, R = r := ⟨_, rfl⟩
      subst hR
      obtain ⟨j', hj⟩ : ∃ j', j' = j := ⟨_, rfl⟩
      subst hj
    case' inr.inr =>
      rw [decide_eq_false (show ¬ V.int r = V.int 0 from fun e => c0 (V.int.inj e))]
      refine iteF ?_
      obtain ⟨J2, hj⟩ : ∃ J2, J2 = J1 := ⟨_, rfl⟩
      subst hj
      have eD2 := eD1
      have eC2 := eC1
      have k2 := k1
      have R0 := r0
      have j0' := j0
      obtain ⟨R, hR⟩ : ∃ R, R = r := ⟨_, rfl⟩
      subst hR
      obtain ⟨j', hj⟩ : ∃ j', j' = j := ⟨_, rfl⟩
      subst hj
    all_goals
      refine ⟨.int R, rfl, .int m, rfl, R, m, rfl, rfl, wide_div (b := 64) (by omega) (by omega) (by decide) (by decide), .ref D, rfl, D, _, 2, 2, rfl, rfl, eD2, rfl, ?_⟩
      have S0 : 0 ≤ R / m := Int.ediv_nonneg R0 (by omega)
      have eD3 : (upd J2 D (.lst [.ref C, .int j', .int (R / m), .int (t + 1)])) D = some (.lst [.ref C, .int j', .int (R / m), .int (t + 1)]) := upd_same
      have eC3 : (upd J2 D (.lst [.ref C, .int j', .int (R / m), .int (t + 1)])) C = some (.lst (cs.map V.int)) := by rw [upd_ne nDC.symm]; exact eC2
      have k3 : Keep [D] H (upd J2 D (.lst [.ref C, .int j', .int (R / m), .int (t + 1)])) := k2.trans (Keep.put (by simp))
      show (_ : Prop)
      rw [show ∀ o : V, [V.ref C, V.int j', o, V.int (t + 1)].set 2 (V.int (R / m)) = [V.ref C, V.int j', V.int (R / m), V.int (t + 1)] from fun _ => rfl]
      generalize upd J2 D (.lst [V.ref C, V.int j', V.int (R / m), V.int (t + 1)]) = J3 at eD3 eC3 k3 ⊢
      have dk3 : Dq J3 D C (b + 1) := ⟨⟨cs, j', R / m, t + 1, eD3, eC3, lc, pc, j0', S0, by omega, by omega⟩, nDC⟩
      refine ⟨.int R, rfl, R, 0, rfl, rfl, _, rfl, ite2 (fun e => ?_) (fun e => ?_)⟩
      · exact ⟨.int R, rfl, .int m, rfl, R, m, rfl, rfl, (show (0 : Int) < m by omega), q _ _ k3 dk3 (Int.emod_nonneg _ (by omega)) (Int.emod_lt_of_pos _ (by omega))⟩
      · clear e
        have bp : (t * 48271 + 12345).natAbs < 2 ^ 64 := by have : (2 : Nat) ^ 64 = 18446744073709551616 := by decide
                                                            omega
        refine ⟨.int t, rfl, t, 48271, rfl, rfl, .inr ⟨by decide, by decide⟩, _, 12345, rfl, rfl, _, 3, rfl, rfl, ⟨by decide, by decide, bp⟩, _, _, rfl, rfl, (show (0 : Int) < 2305843009213693951 by decide), ?_⟩
        dsimp only
        generalize (t * 48271 + 12345) ^ Int.toNat 3 % 2305843009213693951 = x1
        refine ⟨.ref C, rfl, show 0 ≤ sizeLine by decide, fun E0 nE => ?_⟩
        have eC4 := st (o := .lst []) nE eC3
        have dk4 := dk3.new (o := .lst []) nE
        have k4 : Keep [D] H (upd J3 E0 (.lst [])) := k3.trans (Keep.new nE)
        refine ⟨C, E0, _, rfl, rfl, SqL.of eC4, SqL.of upd_same, _, rfl, ?_⟩
        generalize upd J3 E0 (.lst []) = J4 at eC4 dk4 k4 ⊢
        have fin : ∀ x : Int, Q (.int (x % m)) J4 := fun x => q _ _ k4 dk4 (Int.emod_nonneg _ (by omega)) (Int.emod_lt_of_pos _ (by omega))
        rcases (by cases cs with | nil => exact .inl rfl | cons a l => exact .inr (by rw [List.length_cons]; omega) : cs = [] ∨ 0 < (cs.length : Int)) with rfl | hc
        case' inl =>
          refine iteF ?_
        case' inr =>
          have hne : (!(cs.map V.int).isEmpty) = true := by cases cs with | nil => exact absurd hc (by decide) | cons a l => rfl
          rw [if_pos rfl, hne]
          refine iteT ?_
          have i0 : 0 ≤ t * 7 % (cs.length : Int) := Int.emod_nonneg _ (by omega)
          have i1 : t * 7 % (cs.length : Int) < (cs.length : Int) := Int.emod_lt_of_pos _ hc
          obtain ⟨c, mc, gc⟩ := pick_at i0 i1
          have lm : (cs.map V.int).length = cs.length := List.length_map ..
          have c0 : 0 ≤ c % 2305843009213693951 := Int.emod_nonneg _ (by decide)
          have c1 : c % 2305843009213693951 < 2305843009213693951 := Int.emod_lt_of_pos _ (by decide)
          refine ⟨.int x1, rfl, .ref C, rfl, .int t, rfl, t, 7, rfl, rfl, .inr ⟨by decide, by decide⟩, .ref C, rfl, C, _, rfl, .inl (SqL.of eC4), _, _, rfl, rfl, (show (0 : Int) < ((cs.map V.int).length : Int) by rw [lm]; exact hc), C, _, _, .int c, rfl, rfl, SqL.of eC4, by rw [lm]; exact gc, c, _, rfl, rfl, (show (0 : Int) < 2305843009213693951 by decide), .int t, rfl, t, 3, rfl, rfl, _, _, rfl, rfl, .inl ⟨by omega, by omega⟩, x1, _, rfl, rfl, ?_⟩
          dsimp only
          generalize x1 + c % 2305843009213693951 * (t + 3) = x1
        all_goals
          refine ⟨.int x1, rfl, x1, _, rfl, rfl, (show (0 : Int) < 2305843009213693951 by decide), ?_⟩
          have y0 : 0 ≤ x1 % 2305843009213693951 := Int.emod_nonneg _ (by decide)
          have y1 : x1 % 2305843009213693951 < 2305843009213693951 := Int.emod_lt_of_pos _ (by decide)
          dsimp only
          generalize x1 % 2305843009213693951 = x2 at y0 y1 ⊢
          exact ⟨.int x2, rfl, .int x2, rfl, x2, x2, rfl, rfl, .inl ⟨by omega, by omega⟩, _, _, rfl, rfl, (show (0 : Int) < 2305843009213693951 by decide), _, 16, rfl, rfl, ⟨by decide, by decide⟩, .int m, rfl, _, m, rfl, rfl, (show (0 : Int) < m by omega), fin _⟩
abbrev sFar : Stmt := topS 40
abbrev nFar : List Str := ["_law_stream_here", "_law_most", "_law_below", "_law_found"]
theorem scFar : FnScope nFar ["_law_stream_here", "_law_most"] (defScope sFar) := ⟨rfl, rfl, rfl, by decide +kernel, rfl, by decide +kernel, by decide +kernel⟩
def spFar : Sp := fun vs H Q _ => ∃ (D C : Addr) (b m : Int), vs = [.ref D, .int m] ∧ 1 ≤ m ∧ m ≤ 1000000000000000 ∧ Dq H D C b ∧ b ≤ 100000 ∧
  ∀ H' k, Keep [D] H H' → Dq H' D C (b + 3) → 0 ≤ k → k < m → Q (.int k) H'
theorem ok_far (h : Has K mg "_law_far" sFar) (B : Blt mg) (CT : Can P w K mg base "_law_take" ["_law_stream_here", "_law_below"] 1 spTk) : Can P w K mg base "_law_far" ["_law_stream_here", "_law_most"] 2 spFar := by
  obtain ⟨f, fd, F, g⟩ := h
  refine ⟨f, fd, F.ok (k := 1) scFar (fun vs H Q E h => ?_) (fun cdv A outer s H vs Q E hr h => ?_), g, F.kp, F.binds fun _ _ _ _ _ _ us hl => match us, hl with | [_, _], _ => rfl⟩
  · obtain ⟨D, C, b, m, rfl, _⟩ := h
    rfl
  · obtain ⟨D, C, b, m, rfl, m1, m2, dk, hb, q⟩ := h
    refine ⟨_, pss_cons (ps_set (i := 2) scFar.nd rfl (by first | exact Or.inl rfl | exact Or.inr rfl) (pe_callB (call_min2 rfl) (by rfl) B.min_ boot_min (pa_cons (pv 1) (pa_cons (pe_ix ix_list (pe_lst (pa_cons (pv 1) (pa_cons pe_int (pa_cons pe_int (pa_cons (pe_op op_pow pe_int pe_int) pa_nil))))) (pe_can CT (hr.mono (by decide)) (by rfl) (pa_cons (pv 0) (pa_cons pe_int pa_nil))) (fun _ _ => rfl)) pa_nil))))
      (pss_cons (ps_set (i := 3) scFar.nd rfl (by first | exact Or.inl rfl | exact Or.inr rfl) (pe_can CT (hr.mono (by decide)) (by rfl) (pa_cons (pv 0) (pa_cons (pv 2) pa_nil))))
      (pss_one (ps_ret (pe_ix ix_list (pe_lst (pa_cons (pv 3) (pa_cons (pe_op op_sub (pe_op op_sub (pv 1) pe_int) (pv 3)) pa_nil))) (pe_callTy call_int1 (by rfl) B.int_ boot_int (pa_cons (pe_cmpR op_eq (pe_can CT (hr.mono (by decide)) (by rfl) (pa_cons (pv 0) (pa_cons pe_int pa_nil))) pe_int (nomark _)) pa_nil)) (fun _ _ => rfl))))), ?_⟩
    have nD : ∀ {p : Addr}, p ≠ D → p ∉ [D] := fun h m => h (List.mem_singleton.mp m)
    refine ⟨.int m, rfl, .int m, rfl, 10, 9, rfl, rfl, ⟨by decide, by decide, by decide⟩, show 4 ≤ sizeLine by decide, fun L nL => ?_⟩
    refine ⟨.ref D, rfl, D, C, b, 4, rfl, by decide, by decide, dk.new nL, by omega, fun H2 k k2 d2 k0 k4 => ?_⟩
    have nLD := (dk.nes nL).1
    have eL := k2 L _ upd_same (nD nLD)
    obtain ⟨v, mv, gv⟩ := pick_at (xs := [m, 10, 1000, 10 ^ Int.toNat 9]) k0 k4
    have v1 : 1 ≤ v := by
      rcases List.mem_cons.mp mv with rfl | mv
      · exact m1
      rcases List.mem_cons.mp mv with rfl | mv
      · decide
      rcases List.mem_cons.mp mv with rfl | mv
      · decide
      rw [List.mem_singleton.mp mv]; decide
    refine ⟨L, _, k, .int v, rfl, rfl, SqL.of eL, gv, m, v, rfl, ?_⟩
    have b1 : 1 ≤ (if v < m then v else m) := by split <;> omega
    have b2 : (if v < m then v else m) ≤ m := by split <;> omega
    generalize (if v < m then v else m) = bl at b1 b2 ⊢
    refine ⟨.ref D, rfl, .int bl, rfl, D, C, b + 1, bl, rfl, b1, by omega, d2, by omega, fun H3 g k3 d3 g0 g1 => ?_⟩
    refine ⟨.int g, rfl, .int m, rfl, m, 1, rfl, rfl, .int g, rfl, _, g, rfl, rfl, show 2 ≤ sizeLine by decide, fun M nM => ?_⟩
    refine ⟨.ref D, rfl, D, C, b + 1 + 1, 4, rfl, by decide, by decide, d3.new nM, by omega, fun H4 x k5 d5 x0 x4 => ?_⟩
    have eM := k5 M _ upd_same (nD (d3.nes nM).1)
    have kk : Keep [D] H H4 := (Keep.new nL).trans (k2.trans (k3.trans ((Keep.new nM).trans k5)))
    have d6 : Dq H4 D C (b + 3) := d5.mono (by omega)
    refine ⟨rfl, .inr ⟨_, rfl, ?_⟩⟩
    cases decide (V.int x = V.int 0) with
    | true => exact ⟨M, _, 1, .int (m - 1 - g), rfl, rfl, SqL.of eM, rfl, q _ _ kk d6 (by omega) (by omega)⟩
    | false => exact ⟨M, _, 0, .int g, rfl, rfl, SqL.of eM, rfl, q _ _ kk d6 (by omega) (by omega)⟩
end
end Rw

namespace Rw
open PySem PySem.Spec PyProof.Rows L2
theorem rising_of : ∀ {ks : List (Int × Int)} {lo hi : Int}, (ks.map Prod.fst).Pairwise (· < ·) → (∀ k ∈ ks, lo ≤ k.1 ∧ k.1 ≤ hi) → rising lo hi ks
  | [], _, _, _, _ => trivial
  | k :: ks, lo, hi, pw, h => by
    rw [List.map_cons, List.pairwise_cons] at pw
    have hk := h k List.mem_cons_self
    refine ⟨hk.1, hk.2, rising_of pw.2 fun z m => ?_⟩
    have h1 := pw.1 z.1 (List.mem_map_of_mem m)
    have h2 := h z (List.mem_cons_of_mem _ m)
    exact ⟨by omega, h2.2⟩
theorem not1 {D p : Addr} (h : p ≠ D) : p ∉ [D] := fun m => h (List.mem_singleton.mp m)
theorem one_in {D : Addr} {av : List Addr} (m : D ∈ av) : ∀ a ∈ [D], a ∈ av := fun a h => by rw [List.mem_singleton.mp h]; exact m
theorem e15 : (10 : Int) ^ Int.toNat 15 = 1000000000000000 := by decide
theorem e14 : (10 : Int) ^ Int.toNat 14 = 100000000000000 := by decide
theorem e6 : (10 : Int) ^ Int.toNat 6 = 1000000 := by decide
theorem Dq.free {H H' : Hp} {D C p : Addr} {b : Int} (d : Dq H' D C b) (k : Keep [D] H H') (n : H' p = none) : H p = none := k.fre d.tr n
end Rw

namespace Rw
open PySem PySem.Spec PyProof.Rows L2 TL
/-! ### data shown: how deep and how long, and repr of it where nothing else is being shown -/
structure Sw (k n : Nat) (d : PyData) : Prop where
  lay : d.canLay0 = true
  sh : d.showable = true
  dp : d.depth ≤ k
  ln : d.shown.length ≤ n
theorem Sw.mono {k n k' n' : Nat} {d : PyData} (h : Sw k n d) (h1 : k ≤ k') (h2 : n ≤ n') : Sw k' n' d := ⟨h.lay, h.sh, Nat.le_trans h.dp h1, Nat.le_trans h.ln h2⟩
theorem sw_all {k n : Nat} : ∀ ds : List PyData, (∀ d ∈ ds, Sw k n d) → PyData.canLayAll0 ds = true ∧ PyData.showableAll ds = true ∧ PyData.depthAll ds ≤ k ∧ ((PyData.shownAll ds).map (·.length)).sum ≤ ds.length * n ∧ (PyData.shownAll ds).length = ds.length
  | [], _ => by
    refine ⟨by simp only [PyData.canLayAll0], by simp only [PyData.showableAll], by simp only [PyData.depthAll]; omega, ?_, ?_⟩
    · simp only [PyData.shownAll]; exact Nat.zero_le _
    · simp only [PyData.shownAll]; rfl
  | d :: ds, h => by
    have hd := h d List.mem_cons_self
    obtain ⟨a1, a2, a3, a4, a5⟩ := sw_all ds fun z m => h z (List.mem_cons_of_mem _ m)
    have e1 := hd.dp
    have e2 := hd.ln
    refine ⟨by simp only [PyData.canLayAll0, hd.lay, a1, Bool.and_true], by simp only [PyData.showableAll, hd.sh, a2, Bool.and_true], ?_, ?_, ?_⟩
    · simp only [PyData.depthAll]; omega
    · simp only [PyData.shownAll, List.map_cons, List.sum_cons, List.length_cons]
      rw [Nat.succ_mul]; omega
    · simp only [PyData.shownAll, List.length_cons, a5]
theorem Sw.tup {k n m : Nat} {ds : List PyData} (h : ∀ d ∈ ds, Sw k n d) (hm : ds.length ≤ m) : Sw (k + 1) (m * (n + 2) + 3) (.tuple ds) := by
  obtain ⟨a1, a2, a3, a4, a5⟩ := sw_all ds h
  refine ⟨by simp only [PyData.canLay0, a1], by simp only [PyData.showable, a2], by simp only [PyData.depth]; omega, ?_⟩
  have h2 := tupleText_len_le (PyData.shownAll ds)
  have h3 : ds.length * (n + 2) ≤ m * (n + 2) := Nat.mul_le_mul hm (Nat.le_refl _)
  have h4 : ds.length * (n + 2) = ds.length * n + 2 * ds.length := by rw [Nat.mul_add]; omega
  simp only [PyData.shown]
  omega
theorem Sw.lst {k n m : Nat} {ds : List PyData} (h : ∀ d ∈ ds, Sw k n d) (hm : ds.length ≤ m) : Sw (k + 1) (m * (n + 2) + 3) (.list ds) := by
  obtain ⟨a1, a2, a3, a4, a5⟩ := sw_all ds h
  refine ⟨by simp only [PyData.canLay0, a1], by simp only [PyData.showable, a2], by simp only [PyData.depth]; omega, ?_⟩
  have h2 := listText_len_le (PyData.shownAll ds)
  have h3 : ds.length * (n + 2) ≤ m * (n + 2) := Nat.mul_le_mul hm (Nat.le_refl _)
  have h4 : ds.length * (n + 2) = ds.length * n + 2 * ds.length := by rw [Nat.mul_add]; omega
  simp only [PyData.shown]
  omega
theorem Sw.int {i : Int} (h0 : 0 ≤ i) (h1 : i < 1000000000000000) : Sw 0 16 (.int i) := by
  have l := len15 h0 h1
  refine ⟨by simp only [PyData.canLay0], ?_, by simp only [PyData.depth]; omega, ?_⟩
  · simp only [PyData.showable]; exact decide_eq_true (tx_log h0 (by omega))
  · show (tx i).length ≤ 16; omega
section
variable {X : Cx}
def rReprT : List V → Hp → VK → Prop := fun xs H Q => ∃ (a : Addr) (d : PyData) (n : Nat), xs = [.ref a] ∧ Dt [] H (.ref a) d ∧ Sw 60 n d ∧ n ≤ 100000 ∧ Q (.str d.shown) H
theorem cr_reprT (hg : X.A.guards = some []) (hu : X.A.units + 70 < cLine) : CallR X (.builtin "repr") rReprT := by
  intro pins s σ H xs us Q I r h
  obtain ⟨a, d, n, rfl, hd, sw, hn, q⟩ := h
  obtain ⟨u, rfl, ru⟩ := vals1 r
  obtain ⟨as, rd⟩ := Dp.reads I d _ _ (Dt.dp d _ hd sw.lay) ru
  cases ru
  have e1 := sw.dp
  have e2 := sw.ln
  have sz : (100000 : Nat) ≤ sizeLine := by decide
  exact repr_of_reads' rd sw.sh (PyData.noDict_hsm (PyData.hasDict_of_canLay d sw.lay)) hg (by omega) (fun _ _ e => e) (fun h' t tk k => ⟨.str d.shown, H, I.kept (t' := tk) k, ⟨t, rfl⟩, q⟩) (by omega)
end
theorem units70 {k : Nat} {A : Around} (r : Room k A) : A.units + 70 < cLine := by have := r.un; omega
end Rw

namespace Rw
open PySem PySem.Spec PyProof.Rows L2
structure okH (n : Int) (ps : List Pi) : Prop where
  n1 : 1 ≤ n
  n16 : n ≤ 16
  len : (ps.length : Int) + 1 = n
  ok : ∀ p ∈ ps, p.ok n
  con : Con n.toNat (edges ps)
  na : (ps.map fun p => p.na.length).sum ≤ 12
  fl : (ps.map fun p => p.fl.length).sum ≤ 6
theorem rise_fit {lo hi : Int} {ks : List (Int × Int)} (pw : (ks.map (·.1)).Pairwise (· < ·)) (h : ∀ k ∈ ks, lo ≤ k.1 ∧ k.1 ≤ hi) : rising lo hi ks := rising_of pw h
theorem pipe_is {H : Hp} {v : V} {p : Pi} (h : Dt [] H v p.dat) : ∃ a v3 v4, v = .ref a ∧ H a = some (.tup [.int p.x, .int p.y, .int p.l, v3, v4]) ∧ Dt [] H v3 (.tuple (p.na.map prD)) ∧ Dt [] H v4 (.tuple (p.fl.map prD)) := by
  obtain ⟨a, xs, rfl, _, ea, da⟩ := tup_at h
  cases da with
  | cons d1 da => cases d1; cases da with
    | cons d2 da => cases d2; cases da with
      | cons d3 da => cases d3; cases da with
        | cons d4 da => cases da with
          | cons d5 da => cases da; exact ⟨a, _, _, rfl, ea, d4, d5⟩
theorem at_grp {gs : List Int} {x : Int} (h0 : 0 ≤ x) (h : x < gs.length) : atI (gs.map V.int) x = some (.int (grp gs x.toNat)) := by
  refine atI_of h0 ?_
  rw [List.getElem?_map, List.getElem?_eq_getElem (by omega)]
  unfold grp
  rw [List.getD_eq_getElem?_getD, List.getElem?_eq_getElem (by omega)]; rfl
theorem rg_start {r : Int} (h : 0 ≤ r) : rgV 0 r = (Rw.start r.toNat).map V.int := by
  unfold rgV Rw.start
  rw [List.map_map, Int.sub_zero]
  apply List.map_congr_left
  intro a _
  show V.int (0 + (a : Int)) = V.int (Int.ofNat a)
  rw [Int.zero_add]; rfl
theorem sum_ints (ns : List Nat) : (ns.map fun (n : Nat) => (n : Int)).sum = ((ns.sum : Nat) : Int) := by
  induction ns with
  | nil => rfl
  | cons n ns ih => rw [List.map_cons, List.sum_cons, List.sum_cons, ih]; omega
theorem okH.join {n : Int} {ps : List Pi} (h : okH n ps) : joins (Rw.start n.toNat) (edges ps) = true := by
  have h1 := h.n1
  have h2 := h.len
  refine (joins_iff (by omega) (fun e he => ?_) (by unfold edges; rw [List.length_map]; omega)).mpr h.con
  obtain ⟨p, mp, rfl⟩ := List.mem_map.mp he
  have o := h.ok p mp
  have a1 := o.x0
  have a2 := o.x1
  have a3 := o.y0
  have a4 := o.y1
  exact ⟨by show p.x.toNat < n.toNat; omega, by show p.y.toNat < n.toNat; omega⟩
section
variable {P : Program} {w : World} {K : PySem.W.Frag} {mg : Str → Option Value} {base : Heap}
abbrev sFW : Stmt := topS 19
abbrev nFW : List Str := ["thing"]
theorem scFW : FnScope nFW ["thing"] (defScope sFW) := ⟨rfl, rfl, rfl, by decide +kernel, rfl, by decide +kernel, by decide +kernel⟩
def spFW : Sp := fun vs H Q _ => ∃ (i : Int), vs = [.int i] ∧ (i = 1 ∨ i = -1) ∧ ∀ H', Keep [] H H' → Q (.bl true) H'
theorem ok_fW (h : Has K mg "is_flap_way" sFW) (CH : Can P w K mg base "is_whole" ["thing"] 1 spWhole) : Can P w K mg base "is_flap_way" ["thing"] 2 spFW := by
  obtain ⟨f, fd, F, g⟩ := h
  refine ⟨f, fd, F.ok (k := 1) scFW (fun vs H Q E h => ?_) (fun cdv A outer s H vs Q E hr h => ?_), g, F.kp, F.binds fun _ _ _ _ _ _ us hl => match us, hl with | [_], _ => rfl⟩
  · obtain ⟨i, rfl, _⟩ := h
    rfl
  · obtain ⟨i, rfl, hi, q⟩ := h
    refine ⟨_, pss_one (ps_ret (pe_and (pe_can CH (hr.mono (by decide)) (by rfl) (pa_cons (pv 0) pa_nil)) (pe_one (pe_cmpR op_in_seq (pv 0) (pe_tup (pa_cons pe_int (pa_cons (pe_un un_neg pe_int) pa_nil))) rfl)))), ?_⟩
    refine ⟨.int i, rfl, .int i, .int i, [], rfl, .int i, _, rfl, iteT ?_⟩
    refine ⟨.int i, rfl, 1, rfl, show 2 ≤ sizeLine by decide, fun t nt => ?_⟩
    refine ⟨t, [.int 1, .int (-1)], rfl, .inr (SqT.of upd_same), rfl, rfl, ?_⟩
    rcases hi with rfl | rfl
    · exact q _ (Keep.new nt)
    · exact q _ (Keep.new nt)
abbrev sRPs : Stmt := topS 13
abbrev nRPs : List Str := ["thing", "low", "high", "least", "pair"]
theorem scRPs : FnScope nRPs ["thing", "low", "high"] (defScope sRPs) := ⟨rfl, rfl, rfl, by decide +kernel, rfl, by decide +kernel, by decide +kernel⟩
def spRPs : Sp := fun vs H Q _ => ∃ (v : V) (lo l : Int) (ks : List (Int × Int)), vs = [v, .int lo, .int l] ∧ Dt [] H v (.tuple (ks.map prD)) ∧ rising lo l ks ∧ Q (.bl true) H
theorem ok_rPs (h : Has K mg "are_rising_pairs" sRPs) (B : Blt mg) (CT : Can P w K mg base "is_tuple_of" ["thing", "many"] 1 spTupOf) (CW : Can P w K mg base "is_within" ["thing", "low", "high"] 2 spWithin) : Can P w K mg base "are_rising_pairs" ["thing", "low", "high"] 3 spRPs := by
  obtain ⟨f, fd, F, g⟩ := h
  refine ⟨f, fd, F.ok (k := 2) scRPs (fun vs H Q E h => ?_) (fun cdv A outer s H vs Q E hr h => ?_), g, F.kp, F.binds fun _ _ _ _ _ _ us hl => match us, hl with | [_, _, _], _ => rfl⟩
  · obtain ⟨v, lo0, l, ks, rfl, _⟩ := h
    rfl
  · obtain ⟨v, lo0, l, ks, rfl, hv, rk, q⟩ := h
    refine ⟨_, pss_cons (ps_if (pt_not (pt_val (pe_callB (call_isD kit_tup) (by rfl) B.isi boot_isinstance (pa_cons (pv 0) (pa_cons (pe_bltn (v := .ty "tuple") (by rfl) B.tuple_ boot_tuple rfl) pa_nil))))) (pss_one (ps_ret pe_bl)) pss_nil)
      (pss_cons (ps_set (i := 3) scRPs.nd rfl (by first | exact Or.inl rfl | exact Or.inr rfl) (pv 1))
      (pss_cons (ps_for PassesOwn.never rfl (pi_tup (pv 0)) (pg_name (i := 4) scRPs.nd rfl (by first | exact Or.inl rfl | exact Or.inr rfl))
      (pss_cons (ps_if (PW.pt (pw_or (pt_not (pt_val (pe_can CT (hr.mono (by decide)) (by rfl) (pa_cons (pv 4) (pa_cons pe_int pa_nil))))) (pw_or1 (pt_not (pt_val (pe_can CW (hr.mono (by decide)) (by rfl) (pa_cons (pe_ix ix_tup (pv 4) pe_int (fun _ _ => rfl)) (pa_cons (pv 3) (pa_cons (pv 2) pa_nil))))))))) (pss_one (ps_ret pe_bl)) pss_nil)
      (pss_one (ps_set (i := 3) scRPs.nd rfl (by first | exact Or.inl rfl | exact Or.inr rfl) (pe_op op_add (pe_ix ix_tup (pv 4) pe_int (fun _ _ => rfl)) pe_int)))))
      (pss_one (ps_ret pe_bl)))), ?_⟩
    have hv0 := hv
    obtain ⟨a, xs, rfl, _, ea, da⟩ := tup_at hv
    refine ⟨_, rfl, .ref a, _, [], rfl, hv0, _, rfl, iteF ?_⟩
    refine ⟨_, rfl, ?_⟩
    refine ⟨_, rfl, a, rfl, ⟨_, SqT.of ea⟩, for_tup (K := K) (a := a) (xs := xs) (fun i σ J => J = H ∧ ∃ (s4 : Option V) (lo : Int), σ = [some (.ref a), some (.int lo0), some (.int l), some (.int lo), s4] ∧ rising lo l (ks.drop i)) ⟨rfl, none, lo0, rfl, rk⟩ (fun i σ J _ z => ?_) (fun i x σ J hx z => ?_) (fun σ J z => ?_)⟩
    · rw [z.1]; exact SqT.of ea
    · obtain ⟨rfl, s4, lo, rfl, rz⟩ := z
      obtain ⟨d, hd, dx⟩ := da.getv i hx
      rw [List.getElem?_map] at hd
      obtain ⟨k, gk, rfl⟩ := Option.map_eq_some_iff.mp hd
      obtain ⟨b, rfl, eb⟩ := pr_at dx
      rw [drop_rest gk] at rz
      obtain ⟨r1, r2, r3⟩ := rz
      refine ⟨.ref b, rfl, .ref b, prD k, [], 2, rfl, dx, _, rfl, ?_⟩
      rw [show tupOf (prD k) 2 = true from rfl]
      dsimp only [Bool.not_true]
      refine iteF ?_
      refine ⟨.ref b, rfl, b, _, 0, .int k.1, rfl, rfl, SqT.of eb, atI_nat (j := 0) rfl, .int lo, rfl, .int l, rfl, .int k.1, .int k.1, [], lo, l, rfl, .int _, _, rfl, ?_⟩
      rw [within_yes r1 r2]
      dsimp only [Bool.not_true]
      refine iteF ?_
      refine ⟨.ref b, rfl, b, _, 0, .int k.1, rfl, rfl, SqT.of eb, atI_nat (j := 0) rfl, k.1, 1, rfl, rfl, rfl, _, _, rfl, r3⟩
    · obtain ⟨rfl, s4, lo, rfl, rz⟩ := z
      exact q
abbrev sAN : Stmt := topS 17
abbrev nAN : List Str := ["length", "thing", "pair"]
theorem scAN : FnScope nAN ["length", "thing"] (defScope sAN) := ⟨rfl, rfl, rfl, by decide +kernel, rfl, by decide +kernel, by decide +kernel⟩
def spAN : Sp := fun vs H Q _ => ∃ (v : V) (l : Int) (ks : List (Int × Int)), vs = [.int l, v] ∧ Dt [] H v (.tuple (ks.map prD)) ∧ rising 1 (l - 1) ks ∧ (∀ k ∈ ks, 1 ≤ k.2 ∧ k.2 ≤ 1000000) ∧ ks.length ≤ 900 ∧ ∀ H', Keep [] H H' → Q (.bl true) H'
theorem ok_aN (h : Has K mg "are_narrows" sAN) (B : Blt mg) (cWIDE : ∃ t, mg "WIDE" = some (.int 1000000 t)) (CR : Can P w K mg base "are_rising_pairs" ["thing", "low", "high"] 3 spRPs) (CW : Can P w K mg base "is_within" ["thing", "low", "high"] 2 spWithin) : Can P w K mg base "are_narrows" ["length", "thing"] 4 spAN := by
  obtain ⟨f, fd, F, g⟩ := h
  refine ⟨f, fd, F.ok (k := 3) scAN (fun vs H Q E h => ?_) (fun cdv A outer s H vs Q E hr h => ?_), g, F.kp, F.binds fun _ _ _ _ _ _ us hl => match us, hl with | [_, _], _ => rfl⟩
  · obtain ⟨v, l, ks, rfl, _⟩ := h
    rfl
  · obtain ⟨v, l, ks, rfl, hv, rk, sk, lk, q⟩ := h
    refine ⟨_, pss_cons (ps_if (pt_not (pt_val (pe_can CR (hr.mono (by decide)) (by rfl) (pa_cons (pv 1) (pa_cons pe_int (pa_cons (pe_op op_sub (pv 0) pe_int) pa_nil)))))) (pss_one (ps_ret pe_bl)) pss_nil)
      (pss_one (ps_ret (pe_callB (cr_all rfl) (by rfl) B.all_ (by decide +kernel) (pa_cons (pe_lc (own := [("pair", 2)]) (g := gName 2) (tt := tYes) rfl scAN.nd (pi_tup (pv 1)) (blkOk_by (N := nAN) (sc := defScope sAN) (by decide +kernel)) (fun _ _ _ _ _ => (pg_name (i := 2) scAN.nd rfl (by first | exact Or.inl rfl | exact Or.inr rfl))) (fun _ _ _ _ _ => pts_nil) (fun _ _ _ _ _ => (pe_can CW (hr.mono (by decide)) (by rfl) (pa_cons (pe_ix (ix_tupK (K := K) rfl) (pv 2) pe_int (fun _ _ => rfl)) (pa_cons pe_int (pa_cons (pe_glob (v := .int 1000000) rfl cWIDE.choose_spec ⟨_, rfl⟩) pa_nil)))))) pa_nil)))), ?_⟩
    refine ⟨v, rfl, .int l, rfl, l, 1, rfl, rfl, v, 1, l - 1, ks, rfl, hv, rk, _, rfl, iteF ?_⟩
    obtain ⟨b, ys, rfl, _, eb, db⟩ := tup_at hv
    have ly := db.len
    rw [List.length_map] at ly
    refine ⟨.ref b, rfl, b, rfl, ⟨_, SqT.of eb⟩, fun W nW => ?_⟩
    refine lc_tup (K := K) (a := b) (xs := ys) (fun i G => Keep [] H G ∧ G W = some (.lst ((List.replicate i true).map V.bl))) ⟨Keep.new nW, upd_same⟩ (fun i G _ z => SqT.of (z.1 b _ eb List.not_mem_nil)) (fun i x G hx z => ?_) (fun G z => ?_)
    · obtain ⟨d, hd, dx⟩ := db.getv i hx
      rw [List.getElem?_map] at hd
      obtain ⟨k, gk, rfl⟩ := Option.map_eq_some_iff.mp hd
      obtain ⟨c, rfl, ec⟩ := pr_at dx
      have hi : i < ks.length := (List.getElem?_eq_some_iff.mp gk).1
      have hs := sk k (List.mem_of_getElem? gk)
      refine ⟨rfl, .ref c, rfl, c, _, 1, .int k.2, rfl, rfl, SqT.of (z.1 c _ ec List.not_mem_nil), atI_nat (j := 1) rfl, .int k.2, .int k.2, [], 1, _, rfl, .int _, _, z.2, by rw [List.length_map, List.length_replicate]; exact small1000 (by omega), z.1.upd nW, ?_⟩
      rw [upd_same, within_yes hs.1 hs.2, List.replicate_succ', List.map_append]; rfl
    · refine ⟨W, List.replicate ys.length true, rfl, SqL.of z.2, ?_⟩
      have e1 : (List.replicate ys.length true).all id = true := by simp
      rw [e1]
      exact q G z.1
abbrev sAF : Stmt := topS 18
abbrev nAF : List Str := ["length", "thing", "pair"]
theorem scAF : FnScope nAF ["length", "thing"] (defScope sAF) := ⟨rfl, rfl, rfl, by decide +kernel, rfl, by decide +kernel, by decide +kernel⟩
def spAF : Sp := fun vs H Q _ => ∃ (v : V) (l : Int) (ks : List (Int × Int)), vs = [.int l, v] ∧ Dt [] H v (.tuple (ks.map prD)) ∧ rising 0 (l - 1) ks ∧ (∀ k ∈ ks, k.2 = 1 ∨ k.2 = -1) ∧ ks.length ≤ 900 ∧ ∀ H', Keep [] H H' → Q (.bl true) H'
theorem ok_aF (h : Has K mg "are_flaps" sAF) (B : Blt mg) (CR : Can P w K mg base "are_rising_pairs" ["thing", "low", "high"] 3 spRPs) (CF : Can P w K mg base "is_flap_way" ["thing"] 2 spFW) : Can P w K mg base "are_flaps" ["length", "thing"] 4 spAF := by
  obtain ⟨f, fd, F, g⟩ := h
  refine ⟨f, fd, F.ok (k := 3) scAF (fun vs H Q E h => ?_) (fun cdv A outer s H vs Q E hr h => ?_), g, F.kp, F.binds fun _ _ _ _ _ _ us hl => match us, hl with | [_, _], _ => rfl⟩
  · obtain ⟨v, l, ks, rfl, _⟩ := h
    rfl
  · obtain ⟨v, l, ks, rfl, hv, rk, sk, lk, q⟩ := h
    refine ⟨_, pss_cons (ps_if (pt_not (pt_val (pe_can CR (hr.mono (by decide)) (by rfl) (pa_cons (pv 1) (pa_cons pe_int (pa_cons (pe_op op_sub (pv 0) pe_int) pa_nil)))))) (pss_one (ps_ret pe_bl)) pss_nil)
      (pss_one (ps_ret (pe_callB (cr_all rfl) (by rfl) B.all_ (by decide +kernel) (pa_cons (pe_lc (own := [("pair", 2)]) (g := gName 2) (tt := tYes) rfl scAF.nd (pi_tup (pv 1)) (blkOk_by (N := nAF) (sc := defScope sAF) (by decide +kernel)) (fun _ _ _ _ _ => (pg_name (i := 2) scAF.nd rfl (by first | exact Or.inl rfl | exact Or.inr rfl))) (fun _ _ _ _ _ => pts_nil) (fun _ _ _ _ _ => (pe_can CF (hr.mono (by decide)) (by rfl) (pa_cons (pe_ix (ix_tupK (K := K) rfl) (pv 2) pe_int (fun _ _ => rfl)) pa_nil)))) pa_nil)))), ?_⟩
    refine ⟨v, rfl, .int l, rfl, l, 1, rfl, rfl, v, 0, l - 1, ks, rfl, hv, rk, _, rfl, iteF ?_⟩
    obtain ⟨b, ys, rfl, _, eb, db⟩ := tup_at hv
    have ly := db.len
    rw [List.length_map] at ly
    refine ⟨.ref b, rfl, b, rfl, ⟨_, SqT.of eb⟩, fun W nW => ?_⟩
    refine lc_tup (K := K) (a := b) (xs := ys) (fun i G => Keep [] H G ∧ G W = some (.lst ((List.replicate i true).map V.bl))) ⟨Keep.new nW, upd_same⟩ (fun i G _ z => SqT.of (z.1 b _ eb List.not_mem_nil)) (fun i x G hx z => ?_) (fun G z => ?_)
    · obtain ⟨d, hd, dx⟩ := db.getv i hx
      rw [List.getElem?_map] at hd
      obtain ⟨k, gk, rfl⟩ := Option.map_eq_some_iff.mp hd
      obtain ⟨c, rfl, ec⟩ := pr_at dx
      have hi : i < ks.length := (List.getElem?_eq_some_iff.mp gk).1
      have hs := sk k (List.mem_of_getElem? gk)
      refine ⟨rfl, .ref c, rfl, c, _, 1, .int k.2, rfl, rfl, SqT.of (z.1 c _ ec List.not_mem_nil), atI_nat (j := 1) rfl, k.2, rfl, hs, fun G1 k1 => ?_⟩
      refine ⟨_, k1 W _ z.2 List.not_mem_nil, by rw [List.length_map, List.length_replicate]; exact small1000 (by omega), (z.1.trans k1).upd nW, ?_⟩
      rw [upd_same, List.replicate_succ', List.map_append]; rfl
    · refine ⟨W, List.replicate ys.length true, rfl, SqL.of z.2, ?_⟩
      have e1 : (List.replicate ys.length true).all id = true := by simp
      rw [e1]
      exact q G z.1
abbrev sIP : Stmt := topS 16
abbrev nIP : List Str := ["rooms", "thing", "one", "other", "length", "narrows", "flaps"]
theorem scIP : FnScope nIP ["rooms", "thing"] (defScope sIP) := ⟨rfl, rfl, rfl, by decide +kernel, rfl, by decide +kernel, by decide +kernel⟩
def spIP : Sp := fun vs H Q _ => ∃ (v : V) (n : Int) (p : Pi), vs = [.int n, v] ∧ Dt [] H v p.dat ∧ p.ok n ∧ ∀ H', Keep [] H H' → Q (.bl true) H'
theorem ok_iP (h : Has K mg "is_pipe" sIP) (cLONG : ∃ t, mg "LONG" = some (.int 1000000000000 t)) (CT : Can P w K mg base "is_tuple_of" ["thing", "many"] 1 spTupOf) (CW : Can P w K mg base "is_within" ["thing", "low", "high"] 2 spWithin) (CA : Can P w K mg base "are_narrows" ["length", "thing"] 4 spAN) (CF : Can P w K mg base "are_flaps" ["length", "thing"] 4 spAF) : Can P w K mg base "is_pipe" ["rooms", "thing"] 5 spIP := by
  obtain ⟨f, fd, F, g⟩ := h
  refine ⟨f, fd, F.ok (k := 4) scIP (fun vs H Q E h => ?_) (fun cdv A outer s H vs Q E hr h => ?_), g, F.kp, F.binds fun _ _ _ _ _ _ us hl => match us, hl with | [_, _], _ => rfl⟩
  · obtain ⟨v, n, p, rfl, _⟩ := h
    rfl
  · obtain ⟨v, n, p, rfl, hv, ok, q⟩ := h
    refine ⟨_, pss_cons (ps_if (pt_not (pt_val (pe_can CT (hr.mono (by decide)) (by rfl) (pa_cons (pv 1) (pa_cons pe_int pa_nil))))) (pss_one (ps_ret pe_bl)) pss_nil)
      (pss_cons (ps_asg (pv 1) (pg_tup (by rfl) (pgs_cons (pg_name (i := 2) scIP.nd rfl (by first | exact Or.inl rfl | exact Or.inr rfl)) (pgs_cons (pg_name (i := 3) scIP.nd rfl (by first | exact Or.inl rfl | exact Or.inr rfl)) (pgs_cons (pg_name (i := 4) scIP.nd rfl (by first | exact Or.inl rfl | exact Or.inr rfl)) (pgs_cons (pg_name (i := 5) scIP.nd rfl (by first | exact Or.inl rfl | exact Or.inr rfl)) (pgs_cons (pg_name (i := 6) scIP.nd rfl (by first | exact Or.inl rfl | exact Or.inr rfl)) pgs_nil)))))))
      (pss_cons (ps_if (PW.pt (pw_or (pt_not (pt_val (pe_can CW (hr.mono (by decide)) (by rfl) (pa_cons (pv 3) (pa_cons pe_int (pa_cons (pe_op op_sub (pv 0) pe_int) pa_nil)))))) (pw_or1 (pt_not (pt_val (pe_can CW (hr.mono (by decide)) (by rfl) (pa_cons (pv 2) (pa_cons pe_int (pa_cons (pe_op op_sub (pv 3) pe_int) pa_nil))))))))) (pss_one (ps_ret pe_bl)) pss_nil)
      (pss_cons (ps_if (pt_not (pt_val (pe_can CW (hr.mono (by decide)) (by rfl) (pa_cons (pv 4) (pa_cons pe_int (pa_cons (pe_glob (v := .int 1000000000000) rfl cLONG.choose_spec ⟨_, rfl⟩) pa_nil)))))) (pss_one (ps_ret pe_bl)) pss_nil)
      (pss_one (ps_ret (pe_and (pe_can CA (hr.mono (by decide)) (by rfl) (pa_cons (pv 4) (pa_cons (pv 5) pa_nil))) (pe_one (pe_can CF (hr.mono (by decide)) (by rfl) (pa_cons (pv 4) (pa_cons (pv 6) pa_nil)))))))))), ?_⟩
    have hv0 := hv
    obtain ⟨a, v3, v4, rfl, ea, d3, d4⟩ := pipe_is hv
    have x0 := ok.x0
    have y1 := ok.y1
    have xy := ok.xy
    have ft := ok.fit
    refine ⟨.ref a, rfl, .ref a, p.dat, [], 5, rfl, hv0, _, rfl, ?_⟩
    rw [show tupOf p.dat 5 = true from rfl]
    dsimp only [Bool.not_true]
    refine iteF ?_
    refine ⟨.ref a, rfl, a, _, rfl, SqT.of ea, rfl, _, _, rfl, _, _, rfl, _, _, rfl, _, _, rfl, _, [], rfl, rfl, ?_⟩
    refine ⟨.int p.y, rfl, .int n, rfl, n, 1, rfl, rfl, .int p.y, .int p.y, [], 1, _, rfl, .int _, _, rfl, ?_⟩
    rw [within_yes (show 1 ≤ p.y by omega) y1]
    dsimp only [Bool.not_true]
    refine iteF ?_
    refine ⟨.int p.x, rfl, .int p.y, rfl, p.y, 1, rfl, rfl, .int p.x, .int p.x, [], 0, _, rfl, .int _, _, rfl, ?_⟩
    rw [within_yes x0 (show p.x ≤ p.y - 1 by omega)]
    dsimp only [Bool.not_true]
    refine iteF ?_
    refine ⟨.int p.l, rfl, .int p.l, .int p.l, [], 1, _, rfl, .int _, _, rfl, ?_⟩
    rw [within_yes ft.l1 ft.l2]
    dsimp only [Bool.not_true]
    refine iteF ?_
    have nle := ft.nle
    have fle := ft.fle
    refine ⟨.int p.l, rfl, v3, rfl, v3, p.l, p.na, rfl, d3, rise_fit ft.nup (fun k m => ⟨(ft.nin k m).1, (ft.nin k m).2.1⟩), (fun k m => (ft.nin k m).2.2), by omega, fun H1 k1 => ⟨_, rfl, iteT ?_⟩⟩
    exact ⟨.int p.l, rfl, v4, rfl, v4, p.l, p.fl, rfl, d4.keep k1, rise_fit ft.fup (fun k m => ⟨(ft.fin k m).1, (ft.fin k m).2.1⟩), (fun k m => (ft.fin k m).2.2), by omega, fun H2 k2 => q H2 (k1.trans k2)⟩
abbrev sJA : Stmt := topS 20
abbrev nJA : List Str := ["rooms", "pipes", "groups", "pipe", "kept", "gone", "group"]
theorem scJA : FnScope nJA ["rooms", "pipes"] (defScope sJA) := ⟨rfl, rfl, rfl, by decide +kernel, rfl, by decide +kernel, by decide +kernel⟩
def spJA : Sp := fun vs H Q _ => ∃ (v : V) (n : Int) (ps : List Pi), vs = [.int n, v] ∧ Dt [] H v (.tuple (ps.map Pi.dat)) ∧ okH n ps ∧ ∀ H', Keep [] H H' → Q (.bl true) H'
theorem ok_jA (h : Has K mg "joins_all" sJA) (B : Blt mg) : Can P w K mg base "joins_all" ["rooms", "pipes"] 1 spJA := by
  obtain ⟨f, fd, F, g⟩ := h
  refine ⟨f, fd, F.ok (k := 0) scJA (fun vs H Q E h => ?_) (fun cdv A outer s H vs Q E hr h => ?_), g, F.kp, F.binds fun _ _ _ _ _ _ us hl => match us, hl with | [_, _], _ => rfl⟩
  · obtain ⟨v, n, ps, rfl, _⟩ := h
    rfl
  · obtain ⟨v, n, ps, rfl, hv, ok, q⟩ := h
    refine ⟨_, pss_cons (ps_set (i := 2) scJA.nd rfl (by first | exact Or.inl rfl | exact Or.inr rfl) (pe_listRg rfl (by rfl) B.list_ (prg_1 (by rfl) B.range_ (pv 0))))
      (pss_cons (ps_for PassesOwn.never rfl (pi_tup (pv 1)) (pg_name (i := 3) scJA.nd rfl (by first | exact Or.inl rfl | exact Or.inr rfl))
      (pss_cons (ps_set (i := 4) scJA.nd rfl (by first | exact Or.inl rfl | exact Or.inr rfl) (pe_ix ix_list (pv 2) (pe_ix ix_tup (pv 3) pe_int (fun _ _ => rfl)) (fun _ _ => rfl)))
      (pss_cons (ps_set (i := 5) scJA.nd rfl (by first | exact Or.inl rfl | exact Or.inr rfl) (pe_ix ix_list (pv 2) (pe_ix ix_tup (pv 3) pe_int (fun _ _ => rfl)) (fun _ _ => rfl)))
      (pss_cons (ps_if (pt_cmpR op_eq (pv 4) (pv 5) (nomark _)) (pss_one (ps_ret pe_bl)) pss_nil)
      (pss_one (ps_setLc (i := 2) (own := [("group", 6)]) (g := gName 6) (tt := tYes) rfl scJA.nd rfl rfl (sw_true rfl rfl rfl (by decide +kernel)) (pi_list (pv 2)) (blkOk_by (N := nJA) (sc := defScope sJA) (by decide +kernel)) (fun _ _ _ _ _ => (pg_name (i := 6) scJA.nd rfl (by first | exact Or.inl rfl | exact Or.inr rfl))) (fun _ _ _ _ _ => pts_nil) (fun _ _ _ _ _ => (pe_ifExp (pt_cmpR op_eq (pv 6) (pv 5) (nomark _)) (pv 4) (pv 6)))))))))
      (pss_one (ps_ret pe_bl))), ?_⟩
    have hj0 := ok.join
    have n1 := ok.n1
    have n16 := ok.n16
    obtain ⟨a, xs, rfl, _, ea, hs⟩ := tup_at hv
    refine ⟨.int n, rfl, n, rfl, RgOk.of_le (by decide) (by omega) (by decide) (by omega), fun g0 ng0 => ?_⟩
    rw [rg_start (by omega)]
    have k0 : Keep [] H (upd H g0 (.lst ((Rw.start n.toNat).map V.int))) := Keep.new ng0
    refine ⟨.ref a, rfl, a, rfl, ⟨_, SqT.of (k0.same a _ ea)⟩, for_tup (K := K) (a := a) (xs := xs)
      (fun i σ G => ∃ (gs : List Int) (ga : Addr) (s3 s4 s5 : Option V), σ = [some (.int n), some (.ref a), some (.ref ga), s3, s4, s5, none] ∧ Keep [] H G ∧ G ga = some (.lst (gs.map V.int)) ∧ Gs n.toNat gs ∧ joins gs ((edges ps).drop i) = true)
      ⟨_, g0, none, none, none, rfl, k0, upd_same, Gs.start _, hj0⟩ (fun i σ G _ p => ?_) (fun i x σ G hx p => ?_) (fun σ G p => ?_)⟩
    · obtain ⟨_, _, _, _, _, _, kG, _⟩ := p
      exact SqT.of (kG.same a _ ea)
    · obtain ⟨gs, ga, s3, s4, s5, rfl, kG, eg, hgs, hj⟩ := p
      obtain ⟨d, hd, dp⟩ := (hs.keep (Keep.of kG)).getv i hx
      rw [List.getElem?_map] at hd
      obtain ⟨p, hp, rfl⟩ := Option.map_eq_some_iff.mp hd
      have o := ok.ok p (List.mem_of_getElem? hp)
      have b1 := o.x0
      have b2 := o.x1
      have b3 := o.y0
      have b4 := o.y1
      have ed : (edges ps).drop i = (p.x.toNat, p.y.toNat) :: (edges ps).drop (i + 1) := by
        have hm : (edges ps)[i]? = some (p.x.toNat, p.y.toNat) := by unfold edges; rw [List.getElem?_map, hp]; rfl
        have hi' : i < (edges ps).length := (List.getElem?_eq_some_iff.mp hm).1
        rw [← List.getElem_cons_drop hi', (List.getElem?_eq_some_iff.mp hm).2]
      rw [ed] at hj
      obtain ⟨pa, v3, v4, rfl, eb, _, _⟩ := pipe_is dp
      have gl := hgs.len
      refine ⟨.ref ga, rfl, .ref pa, rfl, pa, _, 0, .int p.x, rfl, rfl, SqT.of eb, atI_nat (j := 0) rfl, ga, _, p.x, _, rfl, rfl, SqL.of eg, at_grp b1 (by omega), ?_⟩
      refine ⟨.ref ga, rfl, .ref pa, rfl, pa, _, 1, .int p.y, rfl, rfl, SqT.of eb, atI_nat (j := 1) rfl, ga, _, p.y, _, rfl, rfl, SqL.of eg, at_grp (by omega) (by omega), ?_⟩
      have hj' : (if grp gs p.x.toNat = grp gs p.y.toNat then false else joins (Rw.step gs (p.x.toNat, p.y.toNat)) ((edges ps).drop (i + 1))) = true := hj
      have t' : grp gs p.x.toNat ≠ grp gs p.y.toNat := fun z => by rw [if_pos z] at hj'; cases hj'
      rw [if_neg t'] at hj'
      refine ⟨_, rfl, _, rfl, rfl, _, rfl, ?_⟩
      rw [decide_eq_false (show ¬ V.int (grp gs p.x.toNat) = V.int (grp gs p.y.toNat) from fun z => t' (V.int.inj z))]
      refine iteF ?_
      refine ⟨.ref ga, rfl, ga, rfl, ⟨_, SqL.of eg⟩, fun W nW => ?_⟩
      refine lc_list (K := K) (a := ga) (xs := gs.map V.int) (fun j J => Keep [] G J ∧ J W = some (.lst (((gs.take j).map fun v => if v = grp gs p.y.toNat then grp gs p.x.toNat else v).map V.int)))
        ⟨Keep.new nW, upd_same⟩ (fun j J _ p => SqL.of (p.1.same ga _ eg)) (fun j z J hz y => ?_) (fun J y => ?_)
      · obtain ⟨kJ, eJ⟩ := y
        rw [List.getElem?_map] at hz
        obtain ⟨m, hn, rfl⟩ := Option.map_eq_some_iff.mp hz
        have hj2 : j < gs.length := (List.getElem?_eq_some_iff.mp hn).1
        refine ⟨rfl, .int m, rfl, _, rfl, rfl, _, rfl, ?_⟩
        have fin : ∀ (y : Int), y = (if m = grp gs p.y.toNat then grp gs p.x.toNat else m) → ∃ acc, J W = some (.lst acc) ∧ acc.length < sizeLine ∧ Keep [] G (upd J W (.lst (acc ++ [.int y]))) ∧ upd J W (.lst (acc ++ [.int y])) W = some (.lst (((gs.take (j + 1)).map fun v => if v = grp gs p.y.toNat then grp gs p.x.toNat else v).map V.int)) := fun y hy => by
          refine ⟨_, eJ, by rw [List.length_map, List.length_map, List.length_take]; exact small1000 (by omega), kJ.upd nW, ?_⟩
          rw [upd_same, List.take_add_one, hn, List.map_append, List.map_append, hy]; rfl
        refine ite2 (fun c => ?_) (fun c => ?_)
        · exact ⟨_, rfl, fin _ (by rw [if_pos (V.int.inj (of_decide_eq_true c))])⟩
        · exact ⟨_, rfl, fin _ (by rw [if_neg (fun z => c (decide_eq_true (by rw [z])))])⟩
      · obtain ⟨kJ, eJ⟩ := y
        rw [List.length_map, List.take_of_length_le (Nat.le_refl _)] at eJ
        exact ⟨Rw.step gs (p.x.toNat, p.y.toNat), W, _, _, _, rfl, kG.trans kJ, eJ, hgs.step (by show p.x.toNat < n.toNat; omega) (by show p.y.toNat < n.toNat; omega), hj'⟩
    · obtain ⟨gs, ga, s3, s4, s5, rfl, kG, eg, hgs, hj⟩ := p
      exact q G kG
abbrev sHF : Stmt := topS 21
abbrev nHF : List Str := ["pipes", "pipe", "narrows", "flaps"]
theorem scHF : FnScope nHF ["pipes"] (defScope sHF) := ⟨rfl, rfl, rfl, by decide +kernel, rfl, by decide +kernel, by decide +kernel⟩
def spHF : Sp := fun vs H Q _ => ∃ (v : V) (n : Int) (ps : List Pi), vs = [v] ∧ Dt [] H v (.tuple (ps.map Pi.dat)) ∧ okH n ps ∧ ∀ H', Keep [] H H' → Q (.bl true) H'
theorem ok_hF (h : Has K mg "holds_few" sHF) (B : Blt mg) (cNARROWS : ∃ t, mg "NARROWS" = some (.int 12 t)) (cFLAPS : ∃ t, mg "FLAPS" = some (.int 6 t)) : Can P w K mg base "holds_few" ["pipes"] 1 spHF := by
  obtain ⟨f, fd, F, g⟩ := h
  refine ⟨f, fd, F.ok (k := 0) scHF (fun vs H Q E h => ?_) (fun cdv A outer s H vs Q E hr h => ?_), g, F.kp, F.binds fun _ _ _ _ _ _ us hl => match us, hl with | [_], _ => rfl⟩
  · obtain ⟨v, n, ps, rfl, _⟩ := h
    rfl
  · obtain ⟨v, n, ps, rfl, hv, ok, q⟩ := h
    refine ⟨_, pss_cons (ps_set (i := 2) scHF.nd rfl (by first | exact Or.inl rfl | exact Or.inr rfl) (pe_callB (cr_sum rfl) (by rfl) B.sum_ (by decide +kernel) (pa_cons (pe_lc (own := [("pipe", 1)]) (g := gName 1) (tt := tYes) rfl scHF.nd (pi_tup (pv 0)) (blkOk_by (N := nHF) (sc := defScope sHF) (by decide +kernel)) (fun _ _ _ _ _ => (pg_name (i := 1) scHF.nd rfl (by first | exact Or.inl rfl | exact Or.inr rfl))) (fun _ _ _ _ _ => pts_nil) (fun _ _ _ _ _ => (pe_callB (call_len_seqK (K := K) rfl) (by rfl) B.len_ PySem.boot_len (pa_cons (pe_ix (ix_tupK (K := K) rfl) (pv 1) pe_int (fun _ _ => rfl)) pa_nil)))) pa_nil)))
      (pss_cons (ps_set (i := 3) scHF.nd rfl (by first | exact Or.inl rfl | exact Or.inr rfl) (pe_callB (cr_sum rfl) (by rfl) B.sum_ (by decide +kernel) (pa_cons (pe_lc (own := [("pipe", 1)]) (g := gName 1) (tt := tYes) rfl scHF.nd (pi_tup (pv 0)) (blkOk_by (N := nHF) (sc := defScope sHF) (by decide +kernel)) (fun _ _ _ _ _ => (pg_name (i := 1) scHF.nd rfl (by first | exact Or.inl rfl | exact Or.inr rfl))) (fun _ _ _ _ _ => pts_nil) (fun _ _ _ _ _ => (pe_callB (call_len_seqK (K := K) rfl) (by rfl) B.len_ PySem.boot_len (pa_cons (pe_ix (ix_tupK (K := K) rfl) (pv 1) pe_int (fun _ _ => rfl)) pa_nil)))) pa_nil)))
      (pss_one (ps_ret (pe_and (pe_cmpR op_le (pv 2) (pe_glob (v := .int 12) rfl cNARROWS.choose_spec ⟨_, rfl⟩) (nomark _)) (pe_one (pe_cmpR op_le (pv 3) (pe_glob (v := .int 6) rfl cFLAPS.choose_spec ⟨_, rfl⟩) (nomark _))))))), ?_⟩
    obtain ⟨a, xs, rfl, _, ea, hs⟩ := tup_at hv
    have lx := hs.len
    rw [List.length_map] at lx
    have n16 := ok.n16
    have lps := ok.len
    refine ⟨.ref a, rfl, a, rfl, ⟨_, SqT.of ea⟩, fun W nW => ?_⟩
    refine lc_tup (K := K) (a := a) (xs := xs) (fun j J => Keep [] H J ∧ J W = some (.lst ((((ps.take j).map fun p => p.na.length).map fun (n : Nat) => (n : Int)).map V.int)))
      ⟨Keep.new nW, upd_same⟩ (fun j J _ p => SqT.of (p.1.same a _ ea)) (fun j x J hx y => ?_) (fun J y => ?_)
    · obtain ⟨kJ, eJ⟩ := y
      obtain ⟨d, hd, dp⟩ := (hs.keep (Keep.of kJ)).getv j hx
      rw [List.getElem?_map] at hd
      obtain ⟨p, hp, rfl⟩ := Option.map_eq_some_iff.mp hd
      have hi : j < ps.length := (List.getElem?_eq_some_iff.mp hp).1
      obtain ⟨pa, v3, v4, rfl, eb, d3, d4⟩ := pipe_is dp
      obtain ⟨c, zs, rfl, _, ec, dc⟩ := tup_at d3
      have lz := dc.len
      rw [List.length_map] at lz
      refine ⟨rfl, _, rfl, _, _, 3, _, rfl, rfl, SqT.of eb, atI_nat (j := 3) rfl, _, _, rfl, .inr (SqT.of ec), _, eJ, by rw [List.length_map, List.length_map, List.length_map, List.length_take]; exact small1000 (by omega), kJ.upd nW, ?_⟩
      rw [upd_same, List.take_add_one, hp, List.map_append, List.map_append, List.map_append, lz]; rfl
    · obtain ⟨kJ, eJ⟩ := y
      rw [lx, List.take_of_length_le (Nat.le_refl _)] at eJ
      refine ⟨W, _, rfl, SqL.of eJ, ?_⟩
      rw [sum_ints]
      refine ⟨.ref a, rfl, a, rfl, ⟨_, SqT.of (kJ.same a _ ea)⟩, fun W2 nW2 => ?_⟩
      refine lc_tup (K := K) (a := a) (xs := xs) (fun j L => Keep [] J L ∧ L W2 = some (.lst ((((ps.take j).map fun p => p.fl.length).map fun (n : Nat) => (n : Int)).map V.int)))
        ⟨Keep.new nW2, upd_same⟩ (fun j L _ p => SqT.of ((kJ.trans p.1).same a _ ea)) (fun j x L hx y => ?_) (fun L y => ?_)
      · obtain ⟨kL, eL⟩ := y
        obtain ⟨d, hd, dp⟩ := (hs.keep (Keep.of (kJ.trans kL))).getv j hx
        rw [List.getElem?_map] at hd
        obtain ⟨p, hp, rfl⟩ := Option.map_eq_some_iff.mp hd
        have hi : j < ps.length := (List.getElem?_eq_some_iff.mp hp).1
        obtain ⟨pa, v3, v4, rfl, eb, d3, d4⟩ := pipe_is dp
        obtain ⟨c, zs, rfl, _, ec, dc⟩ := tup_at d4
        have lz := dc.len
        rw [List.length_map] at lz
        refine ⟨rfl, _, rfl, _, _, 4, _, rfl, rfl, SqT.of eb, atI_nat (j := 4) rfl, _, _, rfl, .inr (SqT.of ec), _, eL, by rw [List.length_map, List.length_map, List.length_map, List.length_take]; exact small1000 (by omega), kL.upd nW2, ?_⟩
        rw [upd_same, List.take_add_one, hp, List.map_append, List.map_append, List.map_append, lz]; rfl
      · obtain ⟨kL, eL⟩ := y
        rw [lx, List.take_of_length_le (Nat.le_refl _)] at eL
        refine ⟨W2, _, rfl, SqL.of eL, ?_⟩
        rw [sum_ints]
        have a1 := ok.na
        have a2 := ok.fl
        refine ⟨_, rfl, _, 12, rfl, rfl, _, rfl, ?_⟩
        rw [decide_eq_true (show (((ps.map fun p => p.na.length).sum : Nat) : Int) ≤ 12 by omega)]
        refine iteT ?_
        refine ⟨_, rfl, _, 6, rfl, rfl, ?_⟩
        show Q (.bl (decide ((((ps.map fun p => p.fl.length).sum : Nat) : Int) ≤ 6))) L
        rw [decide_eq_true (show (((ps.map fun p => p.fl.length).sum : Nat) : Int) ≤ 6 by omega)]
        exact q L (kJ.trans kL)
abbrev sIH : Stmt := topS 15
abbrev nIH : List Str := ["thing", "rooms", "pipes", "pipe"]
theorem scIH : FnScope nIH ["thing"] (defScope sIH) := ⟨rfl, rfl, rfl, by decide +kernel, rfl, by decide +kernel, by decide +kernel⟩
def spIH : Sp := fun vs H Q _ => ∃ (v : V) (n : Int) (ps : List Pi), vs = [v] ∧ Dt [] H v (houseD n (ps.map Pi.dat)) ∧ okH n ps ∧ ∀ H', Keep [] H H' → Q (.bl true) H'
theorem ok_iH (h : Has K mg "is_house" sIH) (cROOMS : ∃ t, mg "ROOMS" = some (.int 16 t)) (CT : Can P w K mg base "is_tuple_of" ["thing", "many"] 1 spTupOf) (CW : Can P w K mg base "is_within" ["thing", "low", "high"] 2 spWithin) (CI : Can P w K mg base "is_pipe" ["rooms", "thing"] 5 spIP) (CJ : Can P w K mg base "joins_all" ["rooms", "pipes"] 1 spJA) (CF : Can P w K mg base "holds_few" ["pipes"] 1 spHF) : Can P w K mg base "is_house" ["thing"] 6 spIH := by
  obtain ⟨f, fd, F, g⟩ := h
  refine ⟨f, fd, F.ok (k := 5) scIH (fun vs H Q E h => ?_) (fun cdv A outer s H vs Q E hr h => ?_), g, F.kp, F.binds fun _ _ _ _ _ _ us hl => match us, hl with | [_], _ => rfl⟩
  · obtain ⟨v, n, ps, rfl, _⟩ := h
    rfl
  · obtain ⟨v, n, ps, rfl, hv, ok, q⟩ := h
    refine ⟨_, pss_cons (ps_if (pt_not (pt_val (pe_can CT (hr.mono (by decide)) (by rfl) (pa_cons (pv 0) (pa_cons pe_int pa_nil))))) (pss_one (ps_ret pe_bl)) pss_nil)
      (pss_cons (ps_asg (pv 0) (pg_tup (by rfl) (pgs_cons (pg_name (i := 1) scIH.nd rfl (by first | exact Or.inl rfl | exact Or.inr rfl)) (pgs_cons (pg_name (i := 2) scIH.nd rfl (by first | exact Or.inl rfl | exact Or.inr rfl)) pgs_nil))))
      (pss_cons (ps_if (PW.pt (pw_or (pt_not (pt_val (pe_can CW (hr.mono (by decide)) (by rfl) (pa_cons (pv 1) (pa_cons pe_int (pa_cons (pe_glob (v := .int 16) rfl cROOMS.choose_spec ⟨_, rfl⟩) pa_nil)))))) (pw_or1 (pt_not (pt_val (pe_can CT (hr.mono (by decide)) (by rfl) (pa_cons (pv 2) (pa_cons (pe_op op_sub (pv 1) pe_int) pa_nil)))))))) (pss_one (ps_ret pe_bl)) pss_nil)
      (pss_cons (ps_for PassesOwn.never rfl (pi_tup (pv 2)) (pg_name (i := 3) scIH.nd rfl (by first | exact Or.inl rfl | exact Or.inr rfl))
      (pss_one (ps_if (pt_not (pt_val (pe_can CI (hr.mono (by decide)) (by rfl) (pa_cons (pv 1) (pa_cons (pv 3) pa_nil))))) (pss_one (ps_ret pe_bl)) pss_nil)))
      (pss_one (ps_ret (pe_and (pe_can CJ (hr.mono (by decide)) (by rfl) (pa_cons (pv 1) (pa_cons (pv 2) pa_nil))) (pe_one (pe_can CF (hr.mono (by decide)) (by rfl) (pa_cons (pv 2) pa_nil))))))))), ?_⟩
    have hv0 := hv
    obtain ⟨a, xs, rfl, _, ea, da⟩ := tup_at hv
    obtain ⟨w', rfl, dw⟩ : ∃ w', xs = [.int n, w'] ∧ Dt [] H w' (.tuple (ps.map Pi.dat)) := by
      cases da with
      | cons d1 da => cases d1; cases da with
        | cons d2 da => cases da; exact ⟨_, rfl, d2⟩
    have n1 := ok.n1
    have n16 := ok.n16
    have lps := ok.len
    refine ⟨.ref a, rfl, .ref a, houseD n (ps.map Pi.dat), [], 2, rfl, hv0, _, rfl, ?_⟩
    rw [show tupOf (houseD n (ps.map Pi.dat)) 2 = true from rfl]
    dsimp only [Bool.not_true]
    refine iteF ?_
    refine ⟨.ref a, rfl, a, _, rfl, SqT.of ea, rfl, _, _, rfl, _, [], rfl, rfl, ?_⟩
    refine ⟨.int n, rfl, .int n, .int n, [], 1, _, rfl, .int _, _, rfl, ?_⟩
    rw [within_yes n1 n16]
    dsimp only [Bool.not_true]
    refine iteF ?_
    refine ⟨w', rfl, .int n, rfl, n, 1, rfl, rfl, w', _, [], n - 1, rfl, dw, _, rfl, ?_⟩
    rw [show tupOf (.tuple (ps.map Pi.dat)) (n - 1) = true from decide_eq_true (by rw [List.length_map]; omega)]
    dsimp only [Bool.not_true]
    refine iteF ?_
    have dw0 := dw
    obtain ⟨b, ys, rfl, _, eb, db⟩ := tup_at dw
    refine ⟨_, rfl, b, rfl, ⟨_, SqT.of eb⟩, for_tup (K := K) (a := b) (xs := ys) (fun i σ J => Keep [] H J ∧ ∃ (s3 : Option V), σ = [some (.ref a), some (.int n), some (.ref b), s3]) ⟨Keep.refl _ _, none, rfl⟩ (fun i σ J _ z => SqT.of (z.1 b _ eb List.not_mem_nil)) (fun i x σ J hx z => ?_) (fun σ J z => ?_)⟩
    · obtain ⟨kJ, s3, rfl⟩ := z
      obtain ⟨d, hd, dp⟩ := db.getv i hx
      rw [List.getElem?_map] at hd
      obtain ⟨p, hp, rfl⟩ := Option.map_eq_some_iff.mp hd
      refine ⟨.int n, rfl, x, rfl, x, n, p, rfl, dp.keep kJ, ok.ok p (List.mem_of_getElem? hp), fun J1 k1 => ⟨_, rfl, iteF ?_⟩⟩
      exact ⟨kJ.trans k1, _, rfl⟩
    · obtain ⟨kJ, s3, rfl⟩ := z
      refine ⟨.int n, rfl, .ref b, rfl, .ref b, n, ps, rfl, dw0.keep kJ, ok, fun J1 k1 => ⟨_, rfl, iteT ?_⟩⟩
      exact ⟨.ref b, rfl, .ref b, n, ps, rfl, dw0.keep (kJ.trans k1), ok, fun J2 k2 => q J2 (kJ.trans (k1.trans k2))⟩
end
end Rw

namespace Rw
open PySem PySem.Spec PyProof.Rows L2 TL
abbrev forthT : Str := Str.ofString ">"
abbrev backT : Str := Str.ofString "<"
abbrev commaT : Str := Str.ofString ", "
theorem forth_tl : tl forthT = [62] := by decide +kernel
theorem back_tl : tl backT = [60] := by decide +kernel
theorem comma_tl : tl commaT = [44, 32] := by decide +kernel
def tJoin (ts : List TE) : TE := fun σ H Q => tJs ts Str.empty σ H fun out H1 => Q (.str out) H1
theorem pe_joinedD {X : Cx} {v1 v2 : Expr} {rest : List Expr} {ts : List TE} {pos : Pos} (h : PJ X (v1 :: v2 :: rest) ts) : PE X (.JoinedStr (v1 :: v2 :: rest) pos) (tJoin ts) := pe_joined h
def ftx (k : Int × Int) : Str := tx k.1 ++ (if k.2 = 1 then forthT else backT)
def wds (p : Pi) : List Str := tx p.x :: tx p.y :: tx p.l :: (p.na.map ktx ++ p.fl.map ftx)
def pitx (p : Pi) : Str := Txt.join blankT (wds p)
def htx (n : Int) (ps : List Pi) : Str := Txt.join commaT (tx n :: ps.map pitx)
structure okW (y : Str) : Prop where
  b : 32 ∉ tl y
  c : 44 ∉ tl y
  l : y.length ≤ 31
  s : small y
theorem okW_tx {i : Int} (h0 : 0 ≤ i) (h1 : i < 1000000000000000) : okW (tx i) := ⟨tx_free h0 (by decide), tx_free h0 (by decide), by have := len15 h0 h1; omega, small_tx h0⟩
theorem okW_ktx {k : Int × Int} (h : okK k) : okW (ktx k) := by
  refine ⟨ktx_free h, ?_, ktx_len h, ((small_tx h.1).app small_cross).app (small_tx h.2.2.1)⟩
  unfold ktx
  rw [tl_append, tl_append, cross_tl]
  intro m
  rcases List.mem_append.mp m with m | m
  · rcases List.mem_append.mp m with m | m
    · exact tx_free h.1 (by decide) m
    · simp at m
  · exact tx_free h.2.2.1 (by decide) m
theorem way_tl (k : Int × Int) : tl (if k.2 = 1 then forthT else backT) = [if k.2 = 1 then 62 else 60] := by
  by_cases c : k.2 = 1
  · rw [if_pos c, if_pos c, forth_tl]
  · rw [if_neg c, if_neg c, back_tl]
theorem ftx_tl {k : Int × Int} : tl (ftx k) = tl (tx k.1) ++ [if k.2 = 1 then 62 else 60] := by
  unfold ftx
  rw [tl_append, way_tl]
theorem okW_ftx {k : Int × Int} (h0 : 0 ≤ k.1) (h1 : k.1 < 1000000000000000) : okW (ftx k) := by
  have l := len15 h0 h1
  rw [len_tl] at l
  refine ⟨?_, ?_, ?_, ?_⟩
  · rw [ftx_tl]
    intro m
    rcases List.mem_append.mp m with m | m
    · exact tx_free h0 (by decide) m
    · have := List.mem_singleton.mp m
      split at this <;> omega
  · rw [ftx_tl]
    intro m
    rcases List.mem_append.mp m with m | m
    · exact tx_free h0 (by decide) m
    · have := List.mem_singleton.mp m
      split at this <;> omega
  · rw [len_tl, ftx_tl, List.length_append, List.length_singleton]; omega
  · intro c m
    rw [ftx_tl] at m
    rcases List.mem_append.mp m with m | m
    · exact small_tx h0 c m
    · have := List.mem_singleton.mp m
      split at this <;> omega
theorem fit_na {n : Int} {p : Pi} (ok : p.ok n) : ∀ k ∈ p.na, okK k := fun k m => by
  have h := ok.fit.nin k m
  have h2 := ok.fit.l2
  exact ⟨by omega, by omega, by omega, by omega⟩
theorem fit_fl {n : Int} {p : Pi} (ok : p.ok n) : ∀ k ∈ p.fl, 0 ≤ k.1 ∧ k.1 < 1000000000000000 ∧ (k.2 = 1 ∨ k.2 = -1) := fun k m => by
  have h := ok.fit.fin k m
  have h2 := ok.fit.l2
  exact ⟨h.1, by omega, h.2.2⟩
theorem wds_ok {n : Int} {p : Pi} (ok : p.ok n) (n16 : n ≤ 16) : ∀ y ∈ wds p, okW y := by
  have a1 := ok.x0
  have a2 := ok.x1
  have a3 := ok.y0
  have a4 := ok.y1
  have a5 := ok.fit.l1
  have a6 := ok.fit.l2
  intro y m
  rcases List.mem_cons.mp m with rfl | m
  · exact okW_tx a1 (by omega)
  rcases List.mem_cons.mp m with rfl | m
  · exact okW_tx a3 (by omega)
  rcases List.mem_cons.mp m with rfl | m
  · exact okW_tx (by omega) (by omega)
  rcases List.mem_append.mp m with m | m
  · obtain ⟨k, mk, rfl⟩ := List.mem_map.mp m
    exact okW_ktx (fit_na ok k mk)
  · obtain ⟨k, mk, rfl⟩ := List.mem_map.mp m
    exact okW_ftx (fit_fl ok k mk).1 (fit_fl ok k mk).2.1
theorem wds_len {n : Int} {p : Pi} (ok : p.ok n) : (wds p).length = 3 + p.na.length + p.fl.length ∧ (wds p).length ≤ 9 := by
  have a1 := ok.fit.nle
  have a2 := ok.fit.fle
  have e : (wds p).length = 3 + p.na.length + p.fl.length := by
    unfold wds
    rw [List.length_cons, List.length_cons, List.length_cons, List.length_append, List.length_map, List.length_map]; omega
  exact ⟨e, by omega⟩
theorem free_join {s : Nat} {y : Str} (hy : s ∉ tl y) : ∀ {ys : List Str}, (∀ z ∈ ys, s ∉ tl z) → s ∉ tl (Txt.join y ys)
  | [], _ => by rw [join_eq, tl_join]; exact List.not_mem_nil
  | [a], h => by rw [join_one]; exact h a List.mem_cons_self
  | a :: b :: l, h => by
    have ih := free_join hy (ys := b :: l) fun z m => h z (List.mem_cons_of_mem _ m)
    rw [join_cons, tl_append, tl_append]
    intro m
    rcases List.mem_append.mp m with m | m
    · rcases List.mem_append.mp m with m | m
      · exact h a List.mem_cons_self m
      · exact hy m
    · exact ih m
theorem pitx_ok {n : Int} {p : Pi} (ok : p.ok n) (n16 : n ≤ 16) : 44 ∉ tl (pitx p) ∧ (pitx p).length ≤ 300 := by
  have h := wds_ok ok n16
  refine ⟨free_join (by rw [blank_tl]; decide) fun z m => (h z m).c, ?_⟩
  have h1 := sum_len fun y m => (h y m).l
  have h2 := join_len blankT (wds p)
  have h3 := (wds_len ok).2
  rw [blank_len] at h2
  unfold pitx; omega
theorem comma_len : commaT.length = 2 := by decide +kernel
theorem sum_le {B : Nat} : ∀ {ys : List Str}, (∀ y ∈ ys, y.length ≤ B) → (ys.map (·.length)).sum ≤ B * ys.length
  | [], _ => Nat.zero_le _
  | y :: ys, h => by
    have h1 := h y List.mem_cons_self
    have h2 := sum_le (ys := ys) fun z m => h z (List.mem_cons_of_mem _ m)
    rw [List.map_cons, List.sum_cons, List.length_cons, Nat.mul_succ]; omega
theorem hts_ok {n : Int} {ps : List Pi} (ok : okH n ps) : (∀ y ∈ tx n :: ps.map pitx, 44 ∉ tl y ∧ y.length ≤ 300) ∧ (tx n :: ps.map pitx).length ≤ 16 := by
  have n1 := ok.n1
  have n16 := ok.n16
  have ln := ok.len
  refine ⟨fun y m => ?_, by rw [List.length_cons, List.length_map]; omega⟩
  rcases List.mem_cons.mp m with rfl | m
  · exact ⟨tx_free (by omega) (by decide), by have := len15 (show 0 ≤ n by omega) (by omega); omega⟩
  · obtain ⟨p, mp, rfl⟩ := List.mem_map.mp m
    exact pitx_ok (ok.ok p mp) n16
theorem htx_len {n : Int} {ps : List Pi} (ok : okH n ps) : ((tx n :: ps.map pitx).map (·.length)).sum + (tx n :: ps.map pitx).length * commaT.length ≤ 10000 ∧ (htx n ps).length ≤ 10000 := by
  obtain ⟨h1, h2⟩ := hts_ok ok
  have h3 := sum_le fun y m => (h1 y m).2
  have h4 := join_len commaT (tx n :: ps.map pitx)
  rw [comma_len] at h4 ⊢
  unfold htx; omega
theorem cut_last {z a : Str} {c : Nat} (h : tl z = tl a ++ [c]) : cutS z none (some (-1)) = a := by
  refine ext_tl ?_
  unfold cutS
  show ((z.cps.toList.drop _).take _) = _
  have l : z.length = (tl a).length + 1 := by rw [len_tl, h, List.length_append]; rfl
  have e1 : HT.sIx z.length 0 none = 0 := rfl
  have e2 : HT.sIx z.length z.length (some (-1)) = (tl a).length := by
    show (if (-1 : Int) < 0 then ((-1 : Int) + (z.length : Int)).toNat else min ((-1 : Int).toNat) z.length) = _
    rw [if_pos (by decide), l]; omega
  rw [e1, e2, show z.cps.toList = tl a ++ [c] from h]
  simp
theorem at_last {l : List Nat} {c : Nat} : atI (l ++ [c]) (-1) = some c := by
  have e : ixN (l ++ [c]).length (-1) = some l.length := by
    unfold ixN
    rw [if_neg (by decide), if_pos (by rw [List.length_append, List.length_singleton]; omega)]
    congr 1
    rw [List.length_append, List.length_singleton]; omega
  unfold atI
  rw [e]
  show (l ++ [c])[l.length]? = some c
  simp
theorem pitx_split {n : Int} {p : Pi} (ok : p.ok n) (n16 : n ≤ 16) : Txt.split (pitx p) blankT = wds p := split_join blank_tl (by decide +kernel) (by unfold wds; simp) fun y m => (wds_ok ok n16 y m).b
theorem htx_split {n : Int} {ps : List Pi} (ok : okH n ps) : Txt.split (htx n ps) commaT = tx n :: ps.map pitx := split_join comma_tl (by decide +kernel) (by simp) fun y m => ((hts_ok ok).1 y m).1
theorem x_is : Str.ofString "x" = ⟨#[120]⟩ := by decide +kernel
theorem x_in_ktx {k : Int × Int} : decide (120 ∈ (ktx k).cps.toList) = true := by
  refine decide_eq_true ?_
  show 120 ∈ tl (ktx k)
  unfold ktx
  rw [tl_append, tl_append, cross_tl]; simp
theorem x_in_ftx {k : Int × Int} (h : 0 ≤ k.1) : decide (120 ∈ (ftx k).cps.toList) = false := by
  refine decide_eq_false ?_
  show ¬ 120 ∈ tl (ftx k)
  rw [ftx_tl]
  intro m
  rcases List.mem_append.mp m with m | m
  · exact tx_free h (by decide) m
  · have := List.mem_singleton.mp m
    split at this <;> omega
/-! data of tuples only lie off a list -/
mutual
def flatT : PyData → Bool
  | .tuple ds => flatTs ds
  | .list _ => false
  | .dict _ => false
  | .none | .bool _ | .int _ | .str _ => true
def flatTs : List PyData → Bool
  | [] => true
  | d :: ds => flatT d && flatTs ds
end
mutual
theorem Dt.off {H : Hp} {W : Addr} {vs : List V} (e : H W = some (.lst vs)) : ∀ (d : PyData) (v : V), Dt [] H v d → flatT d = true → Dt [W] H v d
  | _, _, .non, _ => .non
  | _, _, .bl b, _ => .bl b
  | _, _, .int i, _ => .int i
  | _, _, .str x, _ => .str x
  | .tuple ds, _, .tup n e2 s, h => .tup (fun m => by rw [List.mem_singleton.mp m, e] at e2; cases e2) e2 (Dts.off e ds _ s (by simpa only [flatT] using h))
  | .list ds, _, .lst n e2 s, h => by simp only [flatT] at h; cases h
  | .dict _, _, .dct n e2, h => by simp only [flatT] at h; cases h
theorem Dts.off {H : Hp} {W : Addr} {vs : List V} (e : H W = some (.lst vs)) : ∀ (ds : List PyData) (us : List V), Dts [] H us ds → flatTs ds = true → Dts [W] H us ds
  | [], _, .nil, _ => .nil
  | d :: ds, _, .cons x t, h => by
    simp only [flatTs, Bool.and_eq_true] at h
    exact .cons (Dt.off e d _ x h.1) (Dts.off e ds _ t h.2)
end
theorem flat_prs : ∀ ks : List (Int × Int), flatTs (ks.map prD) = true
  | [] => by simp only [List.map_nil, flatTs]
  | k :: ks => by
    have e : prD k = .tuple [.int k.1, .int k.2] := rfl
    rw [List.map_cons, e]
    simp only [flatTs, flatT, flat_prs ks, Bool.and_true]
theorem flat_pipe (p : Pi) : flatT p.dat = true := by
  have e : p.dat = .tuple [.int p.x, .int p.y, .int p.l, .tuple (p.na.map prD), .tuple (p.fl.map prD)] := rfl
  rw [e]
  simp only [flatT, flatTs, flat_prs, Bool.and_true]
section
variable {P : Program} {w : World} {K : PySem.W.Frag} {mg : Str → Option Value} {base : Heap}
abbrev sPiT : Stmt := topS 31
abbrev nPiT : List Str := ["pipe", "number", "numbers", "at", "way", "flaps"]
theorem scPiT : FnScope nPiT ["pipe"] (defScope sPiT) := ⟨rfl, rfl, rfl, by decide +kernel, rfl, by decide +kernel, by decide +kernel⟩
def spPiT : Sp := fun vs H Q _ => ∃ (v : V) (n : Int) (p : Pi), vs = [v] ∧ Dt [] H v p.dat ∧ p.ok n ∧ n ≤ 16 ∧ ∀ H', Keep [] H H' → Q (.str (pitx p)) H'
theorem ok_piT (h : Has K mg "pipe_text" sPiT) (B : Blt mg) (cFo : ∃ t, mg "FORTH" = some (.str forthT t)) (cBa : ∃ t, mg "BACK" = some (.str backT t)) (CT : Can P w K mg base "pair_texts" ["pairs"] 1 spPT) : Can P w K mg base "pipe_text" ["pipe"] 2 spPiT := by
  obtain ⟨f, fd, F, g⟩ := h
  refine ⟨f, fd, F.ok (k := 1) scPiT (fun vs H Q E h => ?_) (fun cdv A outer s H vs Q E hr h => ?_), g, F.kp, F.binds fun _ _ _ _ _ _ us hl => match us, hl with | [_], _ => rfl⟩
  · obtain ⟨v, n, p, rfl, _⟩ := h
    rfl
  · obtain ⟨v, n, p, rfl, hv, ok, n16, q⟩ := h
    refine ⟨_, pss_cons (ps_setLc (i := 2) (own := [("number", 1)]) (g := gName 1) (tt := tYes) rfl scPiT.nd rfl rfl (sw_true rfl rfl rfl (by decide +kernel)) (pi_tup (pe_slice sl_tup (pv 0) po_none (po_some pe_int))) (blkOk_by (N := nPiT) (sc := defScope sPiT) (by decide +kernel)) (fun _ _ _ _ _ => (pg_name (i := 1) scPiT.nd rfl (by first | exact Or.inl rfl | exact Or.inr rfl))) (fun _ _ _ _ _ => pts_nil) (fun _ _ _ _ _ => (pe_callTy call_str_int (by rfl) B.str_ boot_str (pa_cons (pv 1) pa_nil))))
      (pss_cons (ps_setLc (i := 5) (own := [("at", 3), ("way", 4)]) (tt := tYes) rfl scPiT.nd rfl rfl (sw_true rfl rfl rfl (by decide +kernel)) (pi_tup (pe_ix ix_tup (pv 0) pe_int (fun _ _ => rfl))) (blkOk_by (N := nPiT) (sc := defScope sPiT) (by decide +kernel)) (fun _ _ _ _ _ => (pg_tupK (K := K) (n := 2) rfl (by rfl) (pgs_cons (pg_name (i := 3) scPiT.nd rfl (by first | exact Or.inl rfl | exact Or.inr rfl)) (pgs_cons (pg_name (i := 4) scPiT.nd rfl (by first | exact Or.inl rfl | exact Or.inr rfl)) pgs_nil)))) (fun _ _ _ _ _ => pts_nil) (fun _ _ _ _ _ => (pe_joinedD (PJ.cons (pe_fmt (pv 3)) (PJ.cons (pe_fmt (pe_ifExp (pt_cmpR op_eq (pv 4) pe_int (nomark _)) (pe_glob (v := .str forthT) rfl cFo.choose_spec ⟨_, rfl⟩) (pe_glob (v := .str backT) rfl cBa.choose_spec ⟨_, rfl⟩))) PJ.nil)))))
      (pss_one (ps_ret (pe_join pe_str (pe_op op_cat (pe_op op_cat (pv 2) (pe_can CT (hr.mono (by decide)) (by rfl) (pa_cons (pe_ix ix_tup (pv 0) pe_int (fun _ _ => rfl)) pa_nil))) (pv 5)))))), ?_⟩
    obtain ⟨a, v3, v4, rfl, ea, d3, d4⟩ := pipe_is hv
    have a1 := ok.x0
    have a2 := ok.x1
    have a3 := ok.y0
    have a4 := ok.y1
    have a5 := ok.fit.l1
    have a6 := ok.fit.l2
    have nle := ok.fit.nle
    have fle := ok.fit.fle
    have sz : (4000 : Nat) ≤ sizeLine := by decide
    refine ⟨.ref a, rfl, ?_⟩
    dsimp only [tNoPart, tPart]
    refine ⟨3, rfl, a, _, rfl, SqT.of ea, (fun h => absurd h.2 (show ¬ HT.sIx 5 5 (some 3) = 5 by decide)), fun T nT => ?_⟩
    have ec : cutV [V.int p.x, V.int p.y, V.int p.l, v3, v4] none (some 3) = [V.int p.x, V.int p.y, V.int p.l] := by
      rw [show (some (3 : Int)) = some ((3 : Nat) : Int) from rfl, cut_to]; rfl
    rw [ec]
    have eT : (upd H T (.tup [V.int p.x, V.int p.y, V.int p.l])) T = some (.tup [V.int p.x, V.int p.y, V.int p.l]) := upd_same
    have k1 : Keep [] H (upd H T (.tup [V.int p.x, V.int p.y, V.int p.l])) := Keep.new nT
    generalize upd H T (.tup [V.int p.x, V.int p.y, V.int p.l]) = H1 at eT k1 ⊢
    refine ⟨T, rfl, ⟨_, SqT.of eT⟩, fun W nW => ?_⟩
    refine lc_tup (K := K) (a := T) (xs := [p.x, p.y, p.l].map V.int) (fun i G => Keep [] H1 G ∧ G W = some (.lst ((([p.x, p.y, p.l].take i).map tx).map V.str))) ⟨Keep.new nW, upd_same⟩ (fun i G _ z => SqT.of (z.1 T _ eT List.not_mem_nil)) (fun i x G hx z => ?_) (fun G z => ?_)
    · rw [List.getElem?_map] at hx
      obtain ⟨y, gy, rfl⟩ := Option.map_eq_some_iff.mp hx
      have hy : 0 ≤ y ∧ y ≤ 1000000000000000 := by
        rcases List.mem_cons.mp (List.mem_of_getElem? gy) with rfl | m
        · omega
        rcases List.mem_cons.mp m with rfl | m
        · omega
        rw [List.mem_singleton.mp m]; omega
      have hi : i < 3 := (List.getElem?_eq_some_iff.mp gy).1
      refine ⟨rfl, .int y, rfl, y, rfl, tx_log hy.1 hy.2, _, z.2, by rw [List.length_map, List.length_map, List.length_take]; exact small1000 (by omega), z.1.upd nW, ?_⟩
      rw [upd_same, List.take_add_one, gy, List.map_append, List.map_append]; rfl
    · have eW : G W = some (.lst ([tx p.x, tx p.y, tx p.l].map V.str)) := z.2
      have k2 := k1.trans z.1
      have ea2 := k2 a _ ea List.not_mem_nil
      obtain ⟨b, ys, rfl, _, eb, db⟩ := tup_at (d4.keep k2)
      have ly := db.len
      rw [List.length_map] at ly
      refine ⟨.ref a, rfl, a, _, 4, .ref b, rfl, rfl, SqT.of ea2, atI_nat (j := 4) rfl, b, rfl, ⟨_, SqT.of eb⟩, fun Z nZ => ?_⟩
      refine lc_tup (K := K) (a := b) (xs := ys) (fun i J => Keep [] G J ∧ J Z = some (.lst (((p.fl.take i).map ftx).map V.str))) ⟨Keep.new nZ, upd_same⟩ (fun i J _ z => SqT.of (z.1 b _ eb List.not_mem_nil)) (fun i x J hx z => ?_) (fun J z => ?_)
      · obtain ⟨d, hd, dx⟩ := db.getv i hx
        rw [List.getElem?_map] at hd
        obtain ⟨k, gk, rfl⟩ := Option.map_eq_some_iff.mp hd
        obtain ⟨c, rfl, ec⟩ := pr_at dx
        have fk := fit_fl ok k (List.mem_of_getElem? gk)
        have hi : i < p.fl.length := (List.getElem?_eq_some_iff.mp gk).1
        have h1 := len15 fk.1 fk.2.1
        have hf1 : forthT.length = 1 := by decide +kernel
        have hf2 : backT.length = 1 := by decide +kernel
        refine ⟨c, _, rfl, SqT.of (z.1 c _ ec List.not_mem_nil), rfl, _, _, rfl, _, [], rfl, rfl, rfl, ?_⟩
        refine ⟨.int k.1, rfl, .inr ⟨k.1, rfl, tx_log fk.1 (Int.le_of_lt fk.2.1), tx k.1, rfl, by rw [emp_app]; omega, ?_⟩⟩
        refine ⟨.int k.2, rfl, rfl, _, rfl, ite2 (fun e => ?_) (fun e => ?_)⟩
        · have e2 : k.2 = 1 := V.int.inj (of_decide_eq_true e)
          refine .inl ⟨forthT, rfl, by omega, forthT, rfl, by rw [emp_app, len_app]; omega, _, z.2, by rw [List.length_map, List.length_map, List.length_take]; exact small1000 (by omega), z.1.upd nZ, ?_⟩
          rw [upd_same, List.take_add_one, gk, List.map_append, List.map_append, emp_app]
          show _ = some (HO.lst (_ ++ [V.str (ftx k)]))
          unfold ftx
          rw [if_pos e2]
        · have e2 : ¬ k.2 = 1 := fun z => e (decide_eq_true (by rw [z]))
          refine .inl ⟨backT, rfl, by omega, backT, rfl, by rw [emp_app, len_app]; omega, _, z.2, by rw [List.length_map, List.length_map, List.length_take]; exact small1000 (by omega), z.1.upd nZ, ?_⟩
          rw [upd_same, List.take_add_one, gk, List.map_append, List.map_append, emp_app]
          show _ = some (HO.lst (_ ++ [V.str (ftx k)]))
          unfold ftx
          rw [if_neg e2]
      · have eZ : J Z = some (.lst ((p.fl.map ftx).map V.str)) := by
          have z2 := z.2
          rw [ly, List.take_length] at z2
          exact z2
        have k3 := k2.trans z.1
        have ea3 := k3 a _ ea List.not_mem_nil
        have eW3 := z.1 W _ eW List.not_mem_nil
        refine ⟨⟨_, rfl⟩, .ref W, rfl, .ref a, rfl, a, _, 3, v3, rfl, rfl, SqT.of ea3, atI_nat (j := 3) rfl, v3, p.na, rfl, d3.keep k3, fit_na ok, by omega, fun J1 R k4 eR => ?_⟩
        refine ⟨W, R, _, _, rfl, rfl, k4 W _ eW3 List.not_mem_nil, eR, by rw [List.length_map, List.length_map, List.length_map]; exact Nat.le_trans (show 3 + p.na.length ≤ 4000 by omega) sz, fun S nS => ?_⟩
        refine ⟨.ref Z, rfl, S, Z, _, _, rfl, rfl, upd_same, st nS (k4 Z _ eZ List.not_mem_nil), by rw [List.length_append, List.length_map, List.length_map, List.length_map, List.length_map, List.length_map]; exact Nat.le_trans (show 3 + p.na.length + p.fl.length ≤ 4000 by omega) sz, fun U nU => ?_⟩
        have wl := wds_len ok
        have ws := sum_len fun y m => (wds_ok ok n16 y m).l
        refine ⟨blankT, U, wds p, rfl, rfl, .inl (SqL.of ?_), ?_, q _ (k3.trans (k4.trans ((Keep.new nS).trans (Keep.new nU))))⟩
        · rw [upd_same]
          unfold wds
          rw [← List.map_append, ← List.map_append]; rfl
        · rw [blank_len]; omega
abbrev sHT : Stmt := topS 30
abbrev nHT : List Str := ["house", "rooms", "pipes", "pipe"]
theorem scHT : FnScope nHT ["house"] (defScope sHT) := ⟨rfl, rfl, rfl, by decide +kernel, rfl, by decide +kernel, by decide +kernel⟩
def spHT : Sp := fun vs H Q _ => ∃ (v : V) (n : Int) (ps : List Pi), vs = [v] ∧ Dt [] H v (houseD n (ps.map Pi.dat)) ∧ okH n ps ∧ ∀ H', Keep [] H H' → Q (.str (htx n ps)) H'
theorem ok_hT (h : Has K mg "house_text" sHT) (B : Blt mg) (CP : Can P w K mg base "pipe_text" ["pipe"] 2 spPiT) : Can P w K mg base "house_text" ["house"] 3 spHT := by
  obtain ⟨f, fd, F, g⟩ := h
  refine ⟨f, fd, F.ok (k := 2) scHT (fun vs H Q E h => ?_) (fun cdv A outer s H vs Q E hr h => ?_), g, F.kp, F.binds fun _ _ _ _ _ _ us hl => match us, hl with | [_], _ => rfl⟩
  · obtain ⟨v, n, ps, rfl, _⟩ := h
    rfl
  · obtain ⟨v, n, ps, rfl, hv, ok, q⟩ := h
    refine ⟨_, pss_cons (ps_asg (pv 0) (pg_tup (by rfl) (pgs_cons (pg_name (i := 1) scHT.nd rfl (by first | exact Or.inl rfl | exact Or.inr rfl)) (pgs_cons (pg_name (i := 2) scHT.nd rfl (by first | exact Or.inl rfl | exact Or.inr rfl)) pgs_nil))))
      (pss_one (ps_ret (pe_join pe_str (pe_op op_cat (pe_lst (pa_cons (pe_callTy call_str_int (by rfl) B.str_ boot_str (pa_cons (pv 1) pa_nil)) pa_nil)) (pe_lc (own := [("pipe", 3)]) (g := gName 3) (tt := tYes) rfl scHT.nd (pi_tup (pv 2)) (blkOk_by (N := nHT) (sc := defScope sHT) (by decide +kernel)) (fun _ _ _ _ _ => (pg_name (i := 3) scHT.nd rfl (by first | exact Or.inl rfl | exact Or.inr rfl))) (fun _ _ _ _ _ => pts_nil) (fun _ _ _ _ _ => (pe_can CP (hr.mono (by decide)) (by rfl) (pa_cons (pv 3) pa_nil)))))))), ?_⟩
    obtain ⟨a, xs, rfl, _, ea, da⟩ := tup_at hv
    obtain ⟨w', rfl, dw⟩ : ∃ w', xs = [.int n, w'] ∧ Dt [] H w' (.tuple (ps.map Pi.dat)) := by
      cases da with
      | cons d1 da => cases d1; cases da with
        | cons d2 da => cases da; exact ⟨_, rfl, d2⟩
    have n1 := ok.n1
    have n16 := ok.n16
    have lps := ok.len
    refine ⟨.ref a, rfl, a, _, rfl, SqT.of ea, rfl, _, _, rfl, _, [], rfl, rfl, ?_⟩
    refine ⟨⟨_, rfl⟩, .int n, rfl, n, rfl, tx_log (by omega) (by omega), show 1 ≤ sizeLine by decide, fun W nW => ?_⟩
    obtain ⟨b, ys, rfl, _, eb, db⟩ := tup_at dw
    have ly := db.len
    rw [List.length_map] at ly
    have eW : (upd H W (.lst [.str (tx n)])) W = some (.lst [.str (tx n)]) := upd_same
    have k1 : Keep [] H (upd H W (.lst [.str (tx n)])) := Keep.new nW
    generalize hH1 : upd H W (.lst [.str (tx n)]) = H1 at eW k1
    refine ⟨.ref b, rfl, b, rfl, ⟨_, SqT.of (k1 b _ eb List.not_mem_nil)⟩, fun Z nZ => ?_⟩
    refine lc_tup (K := K) (a := b) (xs := ys) (fun i J => Keep [] H1 J ∧ J Z = some (.lst (((ps.take i).map pitx).map V.str))) ⟨Keep.new nZ, upd_same⟩ (fun i J _ z => SqT.of (z.1 b _ (k1 b _ eb List.not_mem_nil) List.not_mem_nil)) (fun i x J hx z => ?_) (fun J z => ?_)
    · obtain ⟨d, hd, dx⟩ := db.getv i hx
      rw [List.getElem?_map] at hd
      obtain ⟨p, hp, rfl⟩ := Option.map_eq_some_iff.mp hd
      have hi : i < ps.length := (List.getElem?_eq_some_iff.mp hp).1
      refine ⟨rfl, x, rfl, x, n, p, rfl, dx.keep (k1.trans z.1), ok.ok p (List.mem_of_getElem? hp), n16, fun J1 k2 => ?_⟩
      refine ⟨_, k2 Z _ z.2 List.not_mem_nil, by rw [List.length_map, List.length_map, List.length_take]; exact small1000 (by omega), (z.1.trans k2).upd nZ, ?_⟩
      rw [upd_same, List.take_add_one, hp, List.map_append, List.map_append]; rfl
    · have eZ : J Z = some (.lst ((ps.map pitx).map V.str)) := by
        have z2 := z.2
        rw [ly, List.take_length] at z2
        exact z2
      refine ⟨W, Z, _, _, rfl, rfl, z.1 W _ eW List.not_mem_nil, eZ, by rw [List.length_map, List.length_map]; exact Nat.le_trans (show 1 + ps.length ≤ 1000 by omega) (show 1000 ≤ sizeLine by decide), fun R nR => ?_⟩
      have hl := (htx_len ok).1
      exact ⟨commaT, R, tx n :: ps.map pitx, rfl, rfl, .inl (SqL.of upd_same), by omega, q _ (k1.trans (z.1.trans (Keep.new nR)))⟩
abbrev sFO : Stmt := topS 35
abbrev nFO : List Str := ["word", "at"]
theorem scFO : FnScope nFO ["word"] (defScope sFO) := ⟨rfl, rfl, rfl, by decide +kernel, rfl, by decide +kernel, by decide +kernel⟩
def spFO : Sp := fun vs H Q _ => ∃ (k : Int × Int), vs = [.str (ftx k)] ∧ 0 ≤ k.1 ∧ k.1 < 1000000000000000 ∧ (k.2 = 1 ∨ k.2 = -1) ∧ ∀ H' (r : Addr), Keep [] H H' → H' r = some (.tup [.int k.1, .int k.2]) → Q (.ref r) H'
theorem ok_fO (h : Has K mg "flap_of" sFO) (B : Blt mg) (cM : ∃ t, mg "MOST" = some (.int 15 t)) (cFo : ∃ t, mg "FORTH" = some (.str forthT t)) (cBa : ∃ t, mg "BACK" = some (.str backT t)) (CN : Can P w K mg base "number_of" ["text", "most"] 1 spNum) : Can P w K mg base "flap_of" ["word"] 2 spFO := by
  obtain ⟨f, fd, F, g⟩ := h
  refine ⟨f, fd, F.ok (k := 1) scFO (fun vs H Q E h => ?_) (fun cdv A outer s H vs Q E hr h => ?_), g, F.kp, F.binds fun _ _ _ _ _ _ us hl => match us, hl with | [_], _ => rfl⟩
  · obtain ⟨k, rfl, _⟩ := h
    rfl
  · obtain ⟨k, rfl, k0, k1, kw, q⟩ := h
    refine ⟨_, pss_cons (ps_set (i := 1) scFO.nd rfl (by first | exact Or.inl rfl | exact Or.inr rfl) (pe_can CN (hr.mono (by decide)) (by rfl) (pa_cons (pe_slice sl_str (pv 0) po_none (po_some (pe_un un_neg pe_int))) (pa_cons (pe_glob (v := .int 15) rfl cM.choose_spec ⟨_, rfl⟩) pa_nil))))
      (pss_cons (ps_if (PW.pt (pw_or (pt_cmpR op_isN (pv 1) pe_non (nomark _)) (pw_or1 (pt_cmpR op_notIn_sign (pe_ix ix_str (pv 0) (pe_un un_neg pe_int) (fun _ _ => rfl)) (pe_op op_add_str (pe_glob (v := .str forthT) rfl cFo.choose_spec ⟨_, rfl⟩) (pe_glob (v := .str backT) rfl cBa.choose_spec ⟨_, rfl⟩)) rfl)))) (pss_one (ps_ret pe_non)) pss_nil)
      (pss_one (ps_ret (pe_tup (pa_cons (pv 1) (pa_cons (pe_ifExp (pt_cmpR op_eq (pe_ix ix_str (pv 0) (pe_un un_neg pe_int) (fun _ _ => rfl)) (pe_glob (v := .str forthT) rfl cFo.choose_spec ⟨_, rfl⟩) (nomark _)) pe_int (pe_un un_neg pe_int)) pa_nil)))))), ?_⟩
    have h15 := len15 k0 k1
    have lf := (okW_ftx k0 k1).l
    have lz : (ftx k).length ≤ sizeLine := Nat.le_trans lf (show 31 ≤ sizeLine by decide)
    have e : (ftx k).cps.toList = tl (tx k.1) ++ [if k.2 = 1 then 62 else 60] := ftx_tl
    have gl : atI (ftx k).cps.toList (-1) = some (if k.2 = 1 then 62 else 60) := by rw [e]; exact at_last
    refine ⟨.str (ftx k), rfl, ?_⟩
    dsimp only [tNoPart, tPart]
    refine ⟨1, rfl, -1, rfl, ftx k, rfl, lz, ?_⟩
    rw [cut_last ftx_tl]
    refine ⟨k.1, 15, rfl, k0, by omega, by decide, fun H1 kk => ?_⟩
    refine ⟨.int k.1, rfl, rfl, _, rfl, ?_⟩
    rw [show decide (V.int k.1 = V.non) = false from decide_eq_false (fun e => by cases e)]
    refine iteF ?_
    have sz : (4000 : Nat) ≤ sizeLine := by decide
    have hf1 : forthT.length = 1 := by decide +kernel
    have hf2 : backT.length = 1 := by decide +kernel
    rcases kw with w1 | w1
    · rw [if_pos w1] at gl
      refine ⟨.str (ftx k), rfl, 1, rfl, ftx k, -1, 62, rfl, rfl, lz, gl, forthT, backT, rfl, rfl, by omega, 62, _, rfl, rfl, _, rfl, ?_⟩
      rw [show decide (62 ∈ (forthT ++ backT).cps.toList) = true by decide +kernel]
      dsimp only [Bool.not_true]
      refine iteF ?_
      refine ⟨.int k.1, rfl, .str (ftx k), rfl, 1, rfl, ftx k, -1, 62, rfl, rfl, lz, gl, rfl, _, rfl, ?_⟩
      rw [show decide (V.str ⟨#[62]⟩ = V.str forthT) = true by decide +kernel]
      refine iteT ?_
      refine ⟨show 2 ≤ sizeLine by decide, fun R nR => q _ R (kk.trans (Keep.new nR)) ?_⟩
      rw [upd_same, w1]
    · rw [if_neg (by omega)] at gl
      refine ⟨.str (ftx k), rfl, 1, rfl, ftx k, -1, 60, rfl, rfl, lz, gl, forthT, backT, rfl, rfl, by omega, 60, _, rfl, rfl, _, rfl, ?_⟩
      rw [show decide (60 ∈ (forthT ++ backT).cps.toList) = true by decide +kernel]
      dsimp only [Bool.not_true]
      refine iteF ?_
      refine ⟨.int k.1, rfl, .str (ftx k), rfl, 1, rfl, ftx k, -1, 60, rfl, rfl, lz, gl, rfl, _, rfl, ?_⟩
      rw [show decide (V.str ⟨#[60]⟩ = V.str forthT) = false by decide +kernel]
      refine iteF ?_
      refine ⟨1, rfl, show 2 ≤ sizeLine by decide, fun R nR => q _ R (kk.trans (Keep.new nR)) ?_⟩
      rw [upd_same, w1]
abbrev sPiO : Stmt := topS 34
abbrev nPiO : List Str := ["text", "words", "word", "one", "other", "length", "narrows", "flaps"]
theorem scPiO : FnScope nPiO ["text"] (defScope sPiO) := ⟨rfl, rfl, rfl, by decide +kernel, rfl, by decide +kernel, by decide +kernel⟩
def spPiO : Sp := fun vs H Q _ => ∃ (n : Int) (p : Pi), vs = [.str (pitx p)] ∧ p.ok n ∧ n ≤ 16 ∧ ∀ H' (r : Addr), Keep [] H H' → Dt [] H' (.ref r) p.dat → Q (.ref r) H'
theorem ok_piO (h : Has K mg "pipe_of" sPiO) (B : Blt mg) (cM : ∃ t, mg "MOST" = some (.int 15 t)) (CN : Can P w K mg base "number_of" ["text", "most"] 1 spNum) (CP : Can P w K mg base "pair_of" ["word"] 2 spPO) (CF : Can P w K mg base "flap_of" ["word"] 2 spFO) : Can P w K mg base "pipe_of" ["text"] 3 spPiO := by
  obtain ⟨f, fd, F, g⟩ := h
  refine ⟨f, fd, F.ok (k := 2) scPiO (fun vs H Q E h => ?_) (fun cdv A outer s H vs Q E hr h => ?_), g, F.kp, F.binds fun _ _ _ _ _ _ us hl => match us, hl with | [_], _ => rfl⟩
  · obtain ⟨n, p, rfl, _⟩ := h
    rfl
  · obtain ⟨n, p, rfl, ok, n16, q⟩ := h
    refine ⟨_, pss_cons (ps_set (i := 1) scPiO.nd rfl (by first | exact Or.inl rfl | exact Or.inr rfl) (pe_split (pv 0) pe_str))
      (pss_cons (ps_if (pt_cmpR op_lt (pe_callB call_len_seq (by rfl) B.len_ PySem.boot_len (pa_cons (pv 1) pa_nil)) pe_int (nomark _)) (pss_one (ps_ret pe_non)) pss_nil)
      (pss_cons (ps_asg (pe_lc (own := [("word", 2)]) (g := gName 2) (tt := tYes) rfl scPiO.nd (pi_list (pe_slice sl_list (pv 1) po_none (po_some pe_int))) (blkOk_by (N := nPiO) (sc := defScope sPiO) (by decide +kernel)) (fun _ _ _ _ _ => (pg_name (i := 2) scPiO.nd rfl (by first | exact Or.inl rfl | exact Or.inr rfl))) (fun _ _ _ _ _ => pts_nil) (fun _ _ _ _ _ => (pe_can CN (hr.mono (by decide)) (by rfl) (pa_cons (pv 2) (pa_cons (pe_glob (v := .int 15) rfl cM.choose_spec ⟨_, rfl⟩) pa_nil))))) (pg_unl (by rfl) (pgs_cons (pg_name (i := 3) scPiO.nd rfl (by first | exact Or.inl rfl | exact Or.inr rfl)) (pgs_cons (pg_name (i := 4) scPiO.nd rfl (by first | exact Or.inl rfl | exact Or.inr rfl)) (pgs_cons (pg_name (i := 5) scPiO.nd rfl (by first | exact Or.inl rfl | exact Or.inr rfl)) pgs_nil)))))
      (pss_cons (ps_setLc (i := 6) (own := [("word", 2)]) (g := gName 2) rfl scPiO.nd rfl rfl (sw_true rfl rfl rfl (by decide +kernel)) (pi_list (pe_slice sl_list (pv 1) (po_some pe_int) po_none)) (blkOk_by (N := nPiO) (sc := defScope sPiO) (by decide +kernel)) (fun _ _ _ _ _ => (pg_name (i := 2) scPiO.nd rfl (by first | exact Or.inl rfl | exact Or.inr rfl))) (fun _ _ _ _ _ => pts_one (pt_cmpR op_in_sign pe_str (pv 2) rfl)) (fun _ _ _ _ _ => (pe_can CP (hr.mono (by decide)) (by rfl) (pa_cons (pv 2) pa_nil))))
      (pss_cons (ps_setLc (i := 7) (own := [("word", 2)]) (g := gName 2) rfl scPiO.nd rfl rfl (sw_true rfl rfl rfl (by decide +kernel)) (pi_list (pe_slice sl_list (pv 1) (po_some pe_int) po_none)) (blkOk_by (N := nPiO) (sc := defScope sPiO) (by decide +kernel)) (fun _ _ _ _ _ => (pg_name (i := 2) scPiO.nd rfl (by first | exact Or.inl rfl | exact Or.inr rfl))) (fun _ _ _ _ _ => pts_one (pt_cmpR op_notIn_sign pe_str (pv 2) rfl)) (fun _ _ _ _ _ => (pe_can CF (hr.mono (by decide)) (by rfl) (pa_cons (pv 2) pa_nil))))
      (pss_one (ps_ret (pe_tup (pa_cons (pv 3) (pa_cons (pv 4) (pa_cons (pv 5) (pa_cons (pe_callTy call_tuple_of (by rfl) B.tuple_ boot_tuple (pa_cons (pv 6) pa_nil)) (pa_cons (pe_callTy call_tuple_of (by rfl) B.tuple_ boot_tuple (pa_cons (pv 7) pa_nil)) pa_nil)))))))))))), ?_⟩
    have wl := wds_len ok
    have pl := (pitx_ok ok n16).2
    have sz : (4000 : Nat) ≤ sizeLine := by decide
    have a1 := ok.x0
    have a2 := ok.x1
    have a3 := ok.y0
    have a4 := ok.y1
    have a5 := ok.fit.l1
    have a6 := ok.fit.l2
    have nle := ok.fit.nle
    have fle := ok.fit.fle
    refine ⟨.str (pitx p), rfl, ⟨_, rfl⟩, pitx p, blankT, rfl, rfl, by decide +kernel, by omega, fun L nL => ?_⟩
    rw [pitx_split ok n16]
    have eL : (upd H L (.lst ((wds p).map V.str))) L = some (.lst ((wds p).map V.str)) := upd_same
    have k1 : Keep [] H (upd H L (.lst ((wds p).map V.str))) := Keep.new nL
    generalize upd H L (.lst ((wds p).map V.str)) = H1 at eL k1 ⊢
    refine ⟨.ref L, rfl, L, _, rfl, .inl (SqL.of eL), _, 3, rfl, rfl, _, rfl, ?_⟩
    rw [List.length_map, decide_eq_false (show ¬ ((wds p).length : Int) < 3 by omega)]
    refine iteF ?_
    refine ⟨.ref L, rfl, ?_⟩
    dsimp only [tNoPart, tPart]
    refine ⟨3, rfl, L, _, rfl, SqL.of eL, fun M nM => ?_⟩
    have ec : cutV ((wds p).map V.str) none (some 3) = ([p.x, p.y, p.l].map tx).map V.str := by
      rw [show (some (3 : Int)) = some ((3 : Nat) : Int) from rfl, cut_to]; rfl
    rw [ec]
    have eM : (upd H1 M (.lst (([p.x, p.y, p.l].map tx).map V.str))) M = some (.lst (([p.x, p.y, p.l].map tx).map V.str)) := upd_same
    have k2 : Keep [] H1 (upd H1 M (.lst (([p.x, p.y, p.l].map tx).map V.str))) := Keep.new nM
    generalize upd H1 M (.lst (([p.x, p.y, p.l].map tx).map V.str)) = H2 at eM k2 ⊢
    refine ⟨M, rfl, ⟨_, SqL.of eM⟩, fun W nW => ?_⟩
    refine lc_list (K := K) (a := M) (xs := ([p.x, p.y, p.l].map tx).map V.str) (fun i G => Keep [] H2 G ∧ G W = some (.lst (([p.x, p.y, p.l].take i).map V.int))) ⟨Keep.new nW, upd_same⟩ (fun i G _ z => SqL.of (z.1 M _ eM List.not_mem_nil)) (fun i x G hx z => ?_) (fun G z => ?_)
    · rw [List.getElem?_map] at hx
      obtain ⟨y, gy, rfl⟩ := Option.map_eq_some_iff.mp hx
      rw [List.getElem?_map] at gy
      obtain ⟨j, gj, rfl⟩ := Option.map_eq_some_iff.mp gy
      have hj : 0 ≤ j ∧ j < 1000000000000000 := by
        rcases List.mem_cons.mp (List.mem_of_getElem? gj) with rfl | m
        · omega
        rcases List.mem_cons.mp m with rfl | m
        · omega
        rw [List.mem_singleton.mp m]; omega
      have hl := len15 hj.1 hj.2
      have hi : i < 3 := (List.getElem?_eq_some_iff.mp gj).1
      refine ⟨rfl, .str (tx j), rfl, j, 15, rfl, hj.1, by omega, by decide, fun G1 k3 => ?_⟩
      refine ⟨_, k3 W _ z.2 List.not_mem_nil, by rw [List.length_map, List.length_take]; exact small1000 (by omega), (z.1.trans k3).upd nW, ?_⟩
      rw [upd_same, List.take_add_one, gj, List.map_append]; rfl
    · have eW : G W = some (.lst [V.int p.x, V.int p.y, V.int p.l]) := z.2
      refine ⟨W, _, rfl, SqL.of eW, rfl, _, _, rfl, _, _, rfl, _, [], rfl, rfl, ?_⟩
      have k3 := k1.trans (k2.trans z.1)
      have eL3 : G L = some (.lst ((wds p).map V.str)) := z.1 L _ (k2 L _ eL List.not_mem_nil) List.not_mem_nil
      have ed : cutV ((wds p).map V.str) (some 3) none = (p.na.map ktx ++ p.fl.map ftx).map V.str := by
        rw [show (some (3 : Int)) = some ((3 : Nat) : Int) from rfl, cut_from]; rfl
      clear eM k2 eL k1 ec
      refine ⟨.ref L, rfl, 3, rfl, ?_⟩
      dsimp only [tNoPart, tPart]
      refine ⟨L, _, rfl, SqL.of eL3, fun M1 nM1 => ?_⟩
      rw [ed]
      have eM1 : (upd G M1 (.lst ((p.na.map ktx ++ p.fl.map ftx).map V.str))) M1 = some (.lst ((p.na.map ktx ++ p.fl.map ftx).map V.str)) := upd_same
      have k4 : Keep [] G (upd G M1 (.lst ((p.na.map ktx ++ p.fl.map ftx).map V.str))) := Keep.new nM1
      generalize upd G M1 (.lst ((p.na.map ktx ++ p.fl.map ftx).map V.str)) = G1 at eM1 k4 ⊢
      refine ⟨M1, rfl, ⟨_, SqL.of eM1⟩, fun Wn nWn => ?_⟩
      refine lc_list (K := K) (a := M1) (xs := (p.na.map ktx ++ p.fl.map ftx).map V.str) (fun i J => Keep [] G1 J ∧ ∃ vs, vs.length ≤ i ∧ J Wn = some (.lst vs) ∧ Dts [Wn] J vs ((p.na.take i).map prD)) ⟨Keep.new nWn, [], Nat.le_refl _, upd_same, .nil⟩ (fun i J _ z => SqL.of (z.1 M1 _ eM1 List.not_mem_nil)) (fun i x J hx z => ?_) (fun J z => ?_)
      · obtain ⟨kJ, vs, lv, eV, dv⟩ := z
        rw [List.getElem?_map] at hx
        obtain ⟨y, gy, rfl⟩ := Option.map_eq_some_iff.mp hx
        have hi := (List.getElem?_eq_some_iff.mp gy).1
        rw [List.length_append, List.length_map, List.length_map] at hi
        by_cases c : i < p.na.length
        · rw [List.getElem?_append_left (by rw [List.length_map]; exact c), List.getElem?_map] at gy
          obtain ⟨k, gk, rfl⟩ := Option.map_eq_some_iff.mp gy
          refine ⟨rfl, .str (ktx k), rfl, 120, ktx k, by rw [x_is], rfl, _, rfl, ?_⟩
          rw [x_in_ktx]
          refine iteT ?_
          refine ⟨.str (ktx k), rfl, k, rfl, fit_na ok k (List.mem_of_getElem? gk), fun J1 r k5 er => ?_⟩
          have eV1 := k5 Wn _ eV List.not_mem_nil
          have nr : r ∉ [Wn] := fun m => by
            rw [List.mem_singleton.mp m, eV1] at er; cases er
          refine ⟨vs, eV1, small1000 (by omega), (kJ.trans k5).upd nWn, vs ++ [.ref r], by rw [List.length_append]; show vs.length + 1 ≤ _; omega, upd_same, ?_⟩
          rw [List.take_add_one, gk, List.map_append]
          exact lst_step dv k5.of (.tup nr er (.cons (.int _) (.cons (.int _) .nil)))
        · rw [List.getElem?_append_right (by rw [List.length_map]; omega), List.getElem?_map] at gy
          obtain ⟨k, gk, rfl⟩ := Option.map_eq_some_iff.mp gy
          refine ⟨rfl, .str (ftx k), rfl, 120, ftx k, by rw [x_is], rfl, _, rfl, ?_⟩
          rw [x_in_ftx (fit_fl ok k (List.mem_of_getElem? gk)).1]
          refine iteF ?_
          refine ⟨kJ, vs, by omega, eV, ?_⟩
          rw [List.take_of_length_le (show p.na.length ≤ i + 1 by omega)]
          rw [List.take_of_length_le (show p.na.length ≤ i by omega)] at dv
          exact dv
      · obtain ⟨kJ, vs, lv, eV, dv⟩ := z
        rw [List.length_map, List.length_append, List.length_map, List.length_map, List.take_of_length_le (by omega)] at dv
        have dN : Dts [] J vs (p.na.map prD) := dv.less fun _ m => nomatch m
        have k5 := k3.trans (k4.trans kJ)
        have eL5 := kJ L _ (k4 L _ eL3 List.not_mem_nil) List.not_mem_nil
        clear dv eM1 k4 kJ k3 eL3
        refine ⟨.ref L, rfl, 3, rfl, ?_⟩
        dsimp only [tNoPart, tPart]
        refine ⟨L, _, rfl, SqL.of eL5, fun M2 nM2 => ?_⟩
        rw [ed]
        have eM2 : (upd J M2 (.lst ((p.na.map ktx ++ p.fl.map ftx).map V.str))) M2 = some (.lst ((p.na.map ktx ++ p.fl.map ftx).map V.str)) := upd_same
        have k6 : Keep [] J (upd J M2 (.lst ((p.na.map ktx ++ p.fl.map ftx).map V.str))) := Keep.new nM2
        generalize upd J M2 (.lst ((p.na.map ktx ++ p.fl.map ftx).map V.str)) = J1 at eM2 k6 ⊢
        refine ⟨M2, rfl, ⟨_, SqL.of eM2⟩, fun Wf nWf => ?_⟩
        refine lc_list (K := K) (a := M2) (xs := (p.na.map ktx ++ p.fl.map ftx).map V.str) (fun i Z => Keep [] J1 Z ∧ ∃ us, us.length ≤ i ∧ Z Wf = some (.lst us) ∧ Dts [Wf] Z us ((p.fl.take (i - p.na.length)).map prD)) ⟨Keep.new nWf, [], Nat.le_refl _, upd_same, by rw [Nat.zero_sub]; exact .nil⟩ (fun i Z _ z => SqL.of (z.1 M2 _ eM2 List.not_mem_nil)) (fun i x Z hx z => ?_) (fun Z z => ?_)
        · obtain ⟨kZ, us, lu, eU, du⟩ := z
          rw [List.getElem?_map] at hx
          obtain ⟨y, gy, rfl⟩ := Option.map_eq_some_iff.mp hx
          have hi := (List.getElem?_eq_some_iff.mp gy).1
          rw [List.length_append, List.length_map, List.length_map] at hi
          by_cases c : i < p.na.length
          · rw [List.getElem?_append_left (by rw [List.length_map]; exact c), List.getElem?_map] at gy
            obtain ⟨k, gk, rfl⟩ := Option.map_eq_some_iff.mp gy
            refine ⟨rfl, .str (ktx k), rfl, 120, ktx k, by rw [x_is], rfl, _, rfl, ?_⟩
            rw [x_in_ktx]
            dsimp only [Bool.not_true]
            refine iteF ?_
            refine ⟨kZ, us, by omega, eU, ?_⟩
            rw [show i + 1 - p.na.length = 0 by omega]
            rw [show i - p.na.length = 0 by omega] at du
            exact du
          · rw [List.getElem?_append_right (by rw [List.length_map]; omega), List.getElem?_map, List.length_map] at gy
            obtain ⟨k, gk, rfl⟩ := Option.map_eq_some_iff.mp gy
            have fk := fit_fl ok k (List.mem_of_getElem? gk)
            refine ⟨rfl, .str (ftx k), rfl, 120, ftx k, by rw [x_is], rfl, _, rfl, ?_⟩
            rw [x_in_ftx fk.1]
            dsimp only [Bool.not_false]
            refine iteT ?_
            refine ⟨.str (ftx k), rfl, k, rfl, fk.1, fk.2.1, fk.2.2, fun Z1 r k7 er => ?_⟩
            have eU1 := k7 Wf _ eU List.not_mem_nil
            have nr : r ∉ [Wf] := fun m => by
              rw [List.mem_singleton.mp m, eU1] at er; cases er
            refine ⟨us, eU1, small1000 (by omega), (kZ.trans k7).upd nWf, us ++ [.ref r], by rw [List.length_append]; show us.length + 1 ≤ _; omega, upd_same, ?_⟩
            rw [show i + 1 - p.na.length = (i - p.na.length) + 1 by omega, List.take_add_one, gk, List.map_append]
            exact lst_step du k7.of (.tup nr er (.cons (.int _) (.cons (.int _) .nil)))
        · obtain ⟨kZ, us, lu, eU, du⟩ := z
          rw [List.length_map, List.length_append, List.length_map, List.length_map, show p.na.length + p.fl.length - p.na.length = p.fl.length by omega, List.take_length] at du
          have dF : Dts [] Z us (p.fl.map prD) := du.less fun _ m => nomatch m
          have k7 := k6.trans kZ
          refine ⟨.int p.x, rfl, .int p.y, rfl, .int p.l, rfl, .ref Wn, rfl, Wn, vs, rfl, .inl ⟨SqL.of (k7 Wn _ eV List.not_mem_nil), fun T1 nT1 => ?_⟩⟩
          refine ⟨.ref Wf, rfl, Wf, us, rfl, .inl ⟨SqL.of (st nT1 eU), fun T2 nT2 => ?_⟩⟩
          refine ⟨show 5 ≤ sizeLine by decide, fun R nR => ?_⟩
          have kA : Keep [] Z (upd Z T1 (.tup vs)) := Keep.new nT1
          have kB : Keep [] (upd Z T1 (.tup vs)) (upd (upd Z T1 (.tup vs)) T2 (.tup us)) := Keep.new nT2
          have kC := Keep.new (av := []) (o := .tup [.int p.x, .int p.y, .int p.l, .ref T1, .ref T2]) nR
          have d1 : Dt [] (upd Z T1 (.tup vs)) (.ref T1) (.tuple (p.na.map prD)) := .tup List.not_mem_nil upd_same (dN.keep (k7.trans kA))
          have d2 : Dt [] (upd (upd Z T1 (.tup vs)) T2 (.tup us)) (.ref T2) (.tuple (p.fl.map prD)) := .tup List.not_mem_nil upd_same (dF.keep (kA.trans kB))
          exact q _ R (k5.trans (k7.trans (kA.trans (kB.trans kC)))) (.tup List.not_mem_nil upd_same (.cons (.int _) (.cons (.int _) (.cons (.int _) (.cons (d1.keep (kB.trans kC)) (.cons (d2.keep kC) .nil))))))
abbrev sRH : Stmt := topS 33
abbrev nRH : List Str := ["thing", "parts", "part", "house"]
theorem scRH : FnScope nRH ["thing"] (defScope sRH) := ⟨rfl, rfl, rfl, by decide +kernel, rfl, by decide +kernel, by decide +kernel⟩
def spRH : Sp := fun vs H Q _ => ∃ (n : Int) (ps : List Pi), vs = [.str (htx n ps)] ∧ okH n ps ∧ ∀ H' (r : Addr), Keep [] H H' → Dt [] H' (.ref r) (houseD n (ps.map Pi.dat)) → Q (.ref r) H'
theorem ok_rH (h : Has K mg "read_house" sRH) (B : Blt mg) (cM : ∃ t, mg "MOST" = some (.int 15 t)) (CN : Can P w K mg base "number_of" ["text", "most"] 1 spNum) (CP : Can P w K mg base "pipe_of" ["text"] 3 spPiO) (CI : Can P w K mg base "is_house" ["thing"] 6 spIH) (CX : Can P w K mg base "house_text" ["house"] 3 spHT) : Can P w K mg base "read_house" ["thing"] 7 spRH := by
  obtain ⟨f, fd, F, g⟩ := h
  refine ⟨f, fd, F.ok (k := 6) scRH (fun vs H Q E h => ?_) (fun cdv A outer s H vs Q E hr h => ?_), g, F.kp, F.binds fun _ _ _ _ _ _ us hl => match us, hl with | [_], _ => rfl⟩
  · obtain ⟨n, ps, rfl, _⟩ := h
    rfl
  · obtain ⟨n, ps, rfl, ok, q⟩ := h
    refine ⟨_, pss_cons (ps_set (i := 1) scRH.nd rfl (by first | exact Or.inl rfl | exact Or.inr rfl) (pe_ifExp (pt_val (pe_callB (call_isD kit_str) (by rfl) B.isi boot_isinstance (pa_cons (pv 0) (pa_cons (pe_bltn (v := .ty "str") (by rfl) B.str_ boot_str rfl) pa_nil)))) (pe_split (pv 0) pe_str) (pe_lst (pa_cons pe_str pa_nil))))
      (pss_cons (ps_set (i := 3) scRH.nd rfl (by first | exact Or.inl rfl | exact Or.inr rfl) (pe_tup (pa_cons (pe_can CN (hr.mono (by decide)) (by rfl) (pa_cons (pe_ix ix_list (pv 1) pe_int (fun _ _ => rfl)) (pa_cons (pe_glob (v := .int 15) rfl cM.choose_spec ⟨_, rfl⟩) pa_nil))) (pa_cons (pe_callTy call_tuple_of (by rfl) B.tuple_ boot_tuple (pa_cons (pe_lc (own := [("part", 2)]) (g := gName 2) (tt := tYes) rfl scRH.nd (pi_list (pe_slice sl_list (pv 1) (po_some pe_int) po_none)) (blkOk_by (N := nRH) (sc := defScope sRH) (by decide +kernel)) (fun _ _ _ _ _ => (pg_name (i := 2) scRH.nd rfl (by first | exact Or.inl rfl | exact Or.inr rfl))) (fun _ _ _ _ _ => pts_nil) (fun _ _ _ _ _ => (pe_can CP (hr.mono (by decide)) (by rfl) (pa_cons (pv 2) pa_nil)))) pa_nil)) pa_nil))))
      (pss_cons (ps_if (PW.pt (pw_or (pt_not (pt_val (pe_can CI (hr.mono (by decide)) (by rfl) (pa_cons (pv 3) pa_nil)))) (pw_or1 (pt_cmpR op_ne (pe_can CX (hr.mono (by decide)) (by rfl) (pa_cons (pv 3) pa_nil)) (pv 0) (nomark _))))) (pss_one ps_never) pss_nil)
      (pss_one (ps_ret (pv 3))))), ?_⟩
    obtain ⟨h1, h2⟩ := hts_ok ok
    have hl := (htx_len ok).2
    have n1 := ok.n1
    have n16 := ok.n16
    have lps := ok.len
    have sz : (10002 : Nat) ≤ sizeLine := by decide
    have h15 := len15 (show 0 ≤ n by omega) (by omega)
    refine ⟨_, rfl, .str _, .str _, [], rfl, .str _, _, rfl, iteT ?_⟩
    refine ⟨.str (htx n ps), rfl, ⟨_, rfl⟩, htx n ps, commaT, rfl, rfl, by decide +kernel, by omega, fun L nL => ?_⟩
    rw [htx_split ok]
    have eL : (upd H L (.lst ((tx n :: ps.map pitx).map V.str))) L = some (.lst ((tx n :: ps.map pitx).map V.str)) := upd_same
    have k1 : Keep [] H (upd H L (.lst ((tx n :: ps.map pitx).map V.str))) := Keep.new nL
    generalize upd H L (.lst ((tx n :: ps.map pitx).map V.str)) = H1 at eL k1 ⊢
    refine ⟨.ref L, rfl, L, _, 0, .str (tx n), rfl, rfl, SqL.of eL, atI_nat (j := 0) rfl, n, 15, rfl, by omega, by omega, by decide, fun H2 k2 => ?_⟩
    have eL2 := k2 L _ eL List.not_mem_nil
    refine ⟨.ref L, rfl, 1, rfl, ?_⟩
    dsimp only [tNoPart]
    refine ⟨L, _, rfl, SqL.of eL2, fun M nM => ?_⟩
    have ec : cutV ((tx n :: ps.map pitx).map V.str) (some 1) none = (ps.map pitx).map V.str := by
      rw [show (some (1 : Int)) = some ((1 : Nat) : Int) from rfl, cut_from]; rfl
    rw [ec]
    have eM : (upd H2 M (.lst ((ps.map pitx).map V.str))) M = some (.lst ((ps.map pitx).map V.str)) := upd_same
    have k3 : Keep [] H2 (upd H2 M (.lst ((ps.map pitx).map V.str))) := Keep.new nM
    generalize upd H2 M (.lst ((ps.map pitx).map V.str)) = H3 at eM k3 ⊢
    refine ⟨M, rfl, ⟨_, SqL.of eM⟩, fun W nW => ?_⟩
    refine lc_list (K := K) (a := M) (xs := (ps.map pitx).map V.str) (fun i G => Keep [] H3 G ∧ ∃ vs, vs.length = i ∧ G W = some (.lst vs) ∧ Dts [W] G vs ((ps.take i).map Pi.dat)) ⟨Keep.new nW, [], rfl, upd_same, .nil⟩ (fun i G _ z => SqL.of (z.1 M _ eM List.not_mem_nil)) (fun i x G hx z => ?_) (fun G z => ?_)
    · obtain ⟨k4, vs, lv, eW, dv⟩ := z
      rw [List.getElem?_map] at hx
      obtain ⟨y, gy, rfl⟩ := Option.map_eq_some_iff.mp hx
      rw [List.getElem?_map] at gy
      obtain ⟨p, gp, rfl⟩ := Option.map_eq_some_iff.mp gy
      have hi : i < ps.length := (List.getElem?_eq_some_iff.mp gp).1
      refine ⟨rfl, _, rfl, n, p, rfl, ok.ok p (List.mem_of_getElem? gp), n16, fun H4 r k5 dr => ?_⟩
      have eW4 := k5 W _ eW List.not_mem_nil
      refine ⟨vs, eW4, by rw [lv]; exact small1000 (by omega), (k4.trans k5).upd nW, vs ++ [.ref r], by rw [List.length_append, lv]; rfl, upd_same, ?_⟩
      rw [List.take_add_one, gp, List.map_append]
      exact lst_step dv k5.of (Dt.off eW4 _ _ dr (flat_pipe p))
    · obtain ⟨k4, vs, lv, eW, dv⟩ := z
      rw [List.length_map, List.length_map, List.take_length] at dv
      have dv0 : Dts [] G vs (ps.map Pi.dat) := dv.less fun _ m => nomatch m
      refine ⟨W, vs, rfl, .inl ⟨SqL.of eW, fun T nT => ?_⟩⟩
      have dT : Dt [] (upd G T (.tup vs)) (.ref T) (.tuple (ps.map Pi.dat)) := .tup List.not_mem_nil upd_same (dv0.keep (Keep.new nT))
      have k5 : Keep [] G (upd G T (.tup vs)) := Keep.new nT
      generalize upd G T (.tup vs) = G1 at dT k5 ⊢
      refine ⟨show 2 ≤ sizeLine by decide, fun R nR => ?_⟩
      have dR : Dt [] (upd G1 R (.tup [.int n, .ref T])) (.ref R) (houseD n (ps.map Pi.dat)) := .tup List.not_mem_nil upd_same (.cons (.int _) (.cons (dT.keep (Keep.new nR)) .nil))
      have k6 : Keep [] G1 (upd G1 R (.tup [.int n, .ref T])) := Keep.new nR
      generalize upd G1 R (.tup [.int n, .ref T]) = G2 at dR k6 ⊢
      refine ⟨.ref R, rfl, .ref R, n, ps, rfl, dR, ok, fun G3 k7 => ?_⟩
      refine ⟨_, rfl, iteF ?_⟩
      refine ⟨.ref R, rfl, .ref R, n, ps, rfl, dR.keep k7, ok, fun G4 k8 => ?_⟩
      refine ⟨.str (htx n ps), rfl, rfl, _, rfl, ?_⟩
      rw [decide_eq_true (rfl : V.str (htx n ps) = V.str (htx n ps))]
      refine iteF ?_
      exact ⟨.ref R, rfl, q G4 R (k1.trans (k2.trans (k3.trans (k4.trans (k5.trans (k6.trans (k7.trans k8))))))) (dR.keep (k7.trans k8))⟩
end
end Rw

namespace Rw
open PySem PySem.Spec PyProof.Rows L2 TL
def gr (b : Str) (ws : List Str) : Str := ws.foldl (fun a w => a ++ blankT ++ w) b
theorem gr_snoc (b w : Str) (ws : List Str) : gr b (ws ++ [w]) = gr b ws ++ blankT ++ w := by unfold gr; rw [List.foldl_append]; rfl
theorem gr_app (a : Str) : ∀ (ws : List Str) (b : Str), gr (a ++ b) ws = a ++ gr b ws
  | [], b => rfl
  | w :: ws, b => by
    show gr (a ++ b ++ blankT ++ w) ws = a ++ gr (b ++ blankT ++ w) ws
    rw [← gr_app a ws (b ++ blankT ++ w), app_assoc a b, app_assoc a]
theorem gr_join : ∀ (ws : List Str) (w : Str), Txt.join blankT (w :: ws) = gr w ws
  | [], w => join_one _ _
  | v :: ws, w => by
    rw [join_cons, gr_join ws v]
    show _ = gr (w ++ blankT ++ v) ws
    rw [gr_app]
theorem gr_len : ∀ {ws : List Str} {b : Str}, (∀ y ∈ ws, y.length ≤ 31) → (gr b ws).length ≤ b.length + 32 * ws.length
  | [], b, _ => by show b.length ≤ _; omega
  | w :: ws, b, h => by
    have h1 := h w List.mem_cons_self
    have h2 := gr_len (ws := ws) (b := b ++ blankT ++ w) fun y m => h y (List.mem_cons_of_mem _ m)
    have h3 := blank_len
    rw [len_app, len_app] at h2
    rw [List.length_cons]
    show (gr (b ++ blankT ++ w) ws).length ≤ _
    omega
theorem htx_nil (n : Int) : htx n [] = tx n := join_one _ _
theorem htx_snoc (n : Int) (ps : List Pi) (p : Pi) : htx n (ps ++ [p]) = htx n ps ++ commaT ++ pitx p := by
  unfold htx
  rw [List.map_append, List.map_cons, List.map_nil, join_snoc]
theorem htx_take {n : Int} {ps : List Pi} (ok : okH n ps) (i : Nat) : (htx n (ps.take i)).length ≤ 6000 := by
  obtain ⟨h1, h2⟩ := hts_ok ok
  have m : ∀ y ∈ tx n :: (ps.take i).map pitx, y.length ≤ 300 := fun y m => by
    rcases List.mem_cons.mp m with rfl | m
    · exact (h1 _ List.mem_cons_self).2
    · obtain ⟨p, mp, rfl⟩ := List.mem_map.mp m
      exact (h1 _ (List.mem_cons_of_mem _ (List.mem_map_of_mem (List.mem_of_mem_take mp)))).2
  have h3 := sum_le m
  have h4 := join_len commaT (tx n :: (ps.take i).map pitx)
  have h5 : (tx n :: (ps.take i).map pitx).length ≤ 16 := by
    rw [List.length_cons, List.length_map, List.length_take]
    rw [List.length_cons, List.length_map] at h2
    omega
  rw [comma_len] at h4
  unfold htx; omega
theorem small_comma : small commaT := fun c m => by
  rw [comma_tl] at m
  rcases List.mem_cons.mp m with rfl | m
  · decide
  · rw [List.mem_singleton.mp m]; decide
theorem small_join {y : Str} (hy : small y) : ∀ {ys : List Str}, (∀ z ∈ ys, small z) → small (Txt.join y ys)
  | [], _ => fun c m => by rw [join_eq, tl_join] at m; exact absurd m List.not_mem_nil
  | [a], h => by rw [join_one]; exact h a List.mem_cons_self
  | a :: b :: l, h => by
    rw [join_cons]
    exact ((h a List.mem_cons_self).app hy).app (small_join hy (ys := b :: l) fun z m => h z (List.mem_cons_of_mem _ m))
theorem small_htx {n : Int} {ps : List Pi} (ok : okH n ps) : small (htx n ps) := by
  have n1 := ok.n1
  refine small_join small_comma fun y m => ?_
  rcases List.mem_cons.mp m with rfl | m
  · exact small_tx (by omega)
  · obtain ⟨p, mp, rfl⟩ := List.mem_map.mp m
    exact small_join small_blank fun z mz => (wds_ok (ok.ok p mp) ok.n16 z mz).s
theorem house_is {av : List Addr} {H : Hp} {v : V} {n : Int} {ps : List Pi} (h : Dt av H v (houseD n (ps.map Pi.dat))) : ∃ a b ys, v = .ref a ∧ H a = some (.tup [.int n, .ref b]) ∧ H b = some (.tup ys) ∧ Dts av H ys (ps.map Pi.dat) ∧ a ∉ av ∧ b ∉ av := by
  obtain ⟨a, xs, rfl, na, ea, da⟩ := tup_at h
  cases da with
  | cons d1 da => cases d1; cases da with
    | cons d2 da =>
      cases da
      obtain ⟨b, ys, rfl, nb, eb, db⟩ := tup_at d2
      exact ⟨a, b, ys, rfl, ea, eb, db, na, nb⟩
theorem add_ktx (f : Str) (k : Int × Int) : f ++ blankT ++ ktx k = f ++ blankT ++ tx k.1 ++ crossT ++ tx k.2 := by
  unfold ktx; rw [← app_assoc, ← app_assoc]
theorem add_ftx (f : Str) (k : Int × Int) : f ++ blankT ++ ftx k = f ++ blankT ++ tx k.1 ++ (if k.2 = 1 then forthT else backT) := by
  unfold ftx; rw [← app_assoc]
theorem ws_sub1 {p : Pi} {j : Nat} : ∀ y ∈ [tx p.y, tx p.l] ++ (p.na.take j).map ktx, y ∈ wds p := fun y m => by
  unfold wds
  rcases List.mem_append.mp m with m | m
  · rcases List.mem_cons.mp m with rfl | m
    · simp
    · rw [List.mem_singleton.mp m]; simp
  · obtain ⟨k, mk, rfl⟩ := List.mem_map.mp m
    exact List.mem_cons_of_mem _ (List.mem_cons_of_mem _ (List.mem_cons_of_mem _ (List.mem_append_left _ (List.mem_map_of_mem (List.mem_of_mem_take mk)))))
theorem ws_sub2 {p : Pi} {j : Nat} : ∀ y ∈ [tx p.y, tx p.l] ++ p.na.map ktx ++ (p.fl.take j).map ftx, y ∈ wds p := fun y m => by
  rcases List.mem_append.mp m with m | m
  · exact ws_sub1 (j := p.na.length) y (by rw [List.take_length]; exact m)
  · obtain ⟨k, mk, rfl⟩ := List.mem_map.mp m
    exact List.mem_cons_of_mem _ (List.mem_cons_of_mem _ (List.mem_cons_of_mem _ (List.mem_append_right _ (List.mem_map_of_mem (List.mem_of_mem_take mk)))))
/-! a house with other widths -/
structure Wd (p q : Pi) : Prop where
  x : q.x = p.x
  y : q.y = p.y
  l : q.l = p.l
  fl : q.fl = p.fl
  na : q.na.map Prod.fst = p.na.map Prod.fst
  wi : ∀ k ∈ q.na, 1 ≤ k.2 ∧ k.2 ≤ 1000000
inductive F2 : List Pi → List Pi → Prop
  | nil : F2 [] []
  | cons {p q : Pi} {ps qs : List Pi} : Wd p q → F2 ps qs → F2 (p :: ps) (q :: qs)
theorem F2.snoc : ∀ {ps qs : List Pi} {p q : Pi}, F2 ps qs → Wd p q → F2 (ps ++ [p]) (qs ++ [q])
  | _, _, _, _, .nil, w => .cons w .nil
  | _, _, _, _, .cons a t, w => .cons a (F2.snoc t w)
theorem Wd.len {p q : Pi} (w : Wd p q) : q.na.length = p.na.length := by rw [← List.length_map (f := Prod.fst), w.na, List.length_map]
theorem F2.all : ∀ {ps qs : List Pi}, F2 ps qs → qs.length = ps.length ∧ edges qs = edges ps ∧ (qs.map fun p => p.na.length) = (ps.map fun p => p.na.length) ∧ (qs.map fun p => p.fl.length) = (ps.map fun p => p.fl.length) ∧ ∀ q ∈ qs, ∃ p ∈ ps, Wd p q
  | _, _, .nil => ⟨rfl, rfl, rfl, rfl, fun _ m => absurd m List.not_mem_nil⟩
  | _, _, .cons (p := p) (q := q) (ps := ps) (qs := qs) w t => by
    obtain ⟨h1, h2, h3, h4, h5⟩ := F2.all t
    refine ⟨by rw [List.length_cons, List.length_cons, h1], ?_, ?_, ?_, fun z m => ?_⟩
    · show (q.x.toNat, q.y.toNat) :: edges qs = (p.x.toNat, p.y.toNat) :: edges ps
      rw [w.x, w.y, h2]
    · rw [List.map_cons, List.map_cons, h3, w.len]
    · rw [List.map_cons, List.map_cons, h4, w.fl]
    · rcases List.mem_cons.mp m with rfl | m
      · exact ⟨p, List.mem_cons_self, w⟩
      · obtain ⟨y, my, wy⟩ := h5 z m
        exact ⟨y, List.mem_cons_of_mem _ my, wy⟩
theorem Wd.ok {n : Int} {p q : Pi} (w : Wd p q) (h : p.ok n) : q.ok n := by
  refine ⟨by rw [w.x]; exact h.x0, by rw [w.x]; exact h.x1, by rw [w.y]; exact h.y0, by rw [w.y]; exact h.y1, by rw [w.x, w.y]; exact h.xy, ?_⟩
  have f := h.fit
  refine ⟨by rw [w.l]; exact f.l1, by rw [w.l]; exact f.l2, by have := f.nup; exact (show (q.na.map Prod.fst).Pairwise (· < ·) from by rw [w.na]; exact this), fun k m => ?_, by rw [w.fl]; exact f.fup, by rw [w.fl, w.l]; exact f.fin, by rw [w.len]; exact f.nle, by rw [w.fl]; exact f.fle⟩
  have mk : k.1 ∈ p.na.map Prod.fst := by rw [← w.na]; exact List.mem_map_of_mem m
  obtain ⟨k', mk', e⟩ := List.mem_map.mp mk
  have z := f.nin k' mk'
  rw [e] at z
  rw [w.l]
  exact ⟨z.1, z.2.1, w.wi k m⟩
theorem F2.okH {n : Int} {ps qs : List Pi} (t : F2 ps qs) (h : okH n ps) : Rw.okH n qs := by
  obtain ⟨h1, h2, h3, h4, h5⟩ := t.all
  refine ⟨h.n1, h.n16, by rw [h1]; exact h.len, fun q m => ?_, by rw [h2]; exact h.con, by rw [h3]; exact h.na, by rw [h4]; exact h.fl⟩
  obtain ⟨p, mp, w⟩ := h5 q m
  exact w.ok (h.ok p mp)
theorem pipe_isA {av : List Addr} {H : Hp} {v : V} {p : Pi} (h : Dt av H v p.dat) : ∃ a v3 v4, v = .ref a ∧ H a = some (.tup [.int p.x, .int p.y, .int p.l, v3, v4]) ∧ Dt av H v3 (.tuple (p.na.map prD)) ∧ Dt av H v4 (.tuple (p.fl.map prD)) := by
  obtain ⟨a, xs, rfl, _, ea, da⟩ := tup_at h
  cases da with
  | cons d1 da => cases d1; cases da with
    | cons d2 da => cases d2; cases da with
      | cons d3 da => cases d3; cases da with
        | cons d4 da => cases da with
          | cons d5 da => cases da; exact ⟨a, _, _, rfl, ea, d4, d5⟩
theorem pr_atA {av : List Addr} {H : Hp} {x : V} {k : Int × Int} (dx : Dt av H x (prD k)) : ∃ b, x = .ref b ∧ b ∉ av ∧ H b = some (.tup [.int k.1, .int k.2]) := by
  obtain ⟨b, ys, rfl, nb, eb, db⟩ := tup_at dx
  have hys : ys = [.int k.1, .int k.2] := Dts.unints (ns := [k.1, k.2]) db
  subst hys
  exact ⟨b, rfl, nb, eb⟩
section
variable {P : Program} {w : World} {K : PySem.W.Frag} {mg : Str → Option Value} {base : Heap}
abbrev sLHT : Stmt := topS 42
abbrev nLHT : List Str := ["_law_house", "_law_found", "_law_one", "_law_other", "_law_length", "_law_narrows", "_law_flaps", "_law_at", "_law_width", "_law_way"]
theorem scLHT : FnScope nLHT ["_law_house"] (defScope sLHT) := ⟨rfl, rfl, rfl, by decide +kernel, rfl, by decide +kernel, by decide +kernel⟩
def spLHT : Sp := fun vs H Q _ => ∃ (v : V) (n : Int) (ps : List Pi), vs = [v] ∧ Dt [] H v (houseD n (ps.map Pi.dat)) ∧ okH n ps ∧ ∀ H', Keep [] H H' → Q (.str (htx n ps)) H'
theorem ok_lHT (h : Has K mg "_law_house_text" sLHT) (B : Blt mg) : Can P w K mg base "_law_house_text" ["_law_house"] 1 spLHT := by
  obtain ⟨f, fd, F, g⟩ := h
  refine ⟨f, fd, F.ok (k := 0) scLHT (fun vs H Q E h => ?_) (fun cdv A outer s H vs Q E hr h => ?_), g, F.kp, F.binds fun _ _ _ _ _ _ us hl => match us, hl with | [_], _ => rfl⟩
  · obtain ⟨v, n, ps, rfl, _⟩ := h
    rfl
  · obtain ⟨v, n, ps, rfl, hv, ok, q⟩ := h
    refine ⟨_, pss_cons (ps_set (i := 1) scLHT.nd rfl (by first | exact Or.inl rfl | exact Or.inr rfl) (pe_callTy call_str_int (by rfl) B.str_ boot_str (pa_cons (pe_ix ix_tup (pv 0) pe_int (fun _ _ => rfl)) pa_nil)))
      (pss_cons (ps_for PassesOwn.never rfl (pi_tup (pe_ix ix_tup (pv 0) pe_int (fun _ _ => rfl))) (pg_tup (by rfl) (pgs_cons (pg_name (i := 2) scLHT.nd rfl (by first | exact Or.inl rfl | exact Or.inr rfl)) (pgs_cons (pg_name (i := 3) scLHT.nd rfl (by first | exact Or.inl rfl | exact Or.inr rfl)) (pgs_cons (pg_name (i := 4) scLHT.nd rfl (by first | exact Or.inl rfl | exact Or.inr rfl)) (pgs_cons (pg_name (i := 5) scLHT.nd rfl (by first | exact Or.inl rfl | exact Or.inr rfl)) (pgs_cons (pg_name (i := 6) scLHT.nd rfl (by first | exact Or.inl rfl | exact Or.inr rfl)) pgs_nil))))))
      (pss_cons (ps_set (i := 1) scLHT.nd rfl (by first | exact Or.inl rfl | exact Or.inr rfl) (pe_op op_add_str (pe_op op_add_str (pe_op op_add_str (pe_op op_add_str (pe_op op_add_str (pe_op op_add_str (pv 1) pe_str) (pe_callTy call_str_int (by rfl) B.str_ boot_str (pa_cons (pv 2) pa_nil))) pe_str) (pe_callTy call_str_int (by rfl) B.str_ boot_str (pa_cons (pv 3) pa_nil))) pe_str) (pe_callTy call_str_int (by rfl) B.str_ boot_str (pa_cons (pv 4) pa_nil))))
      (pss_cons (ps_for PassesOwn.never rfl (pi_tup (pv 5)) (pg_tup (by rfl) (pgs_cons (pg_name (i := 7) scLHT.nd rfl (by first | exact Or.inl rfl | exact Or.inr rfl)) (pgs_cons (pg_name (i := 8) scLHT.nd rfl (by first | exact Or.inl rfl | exact Or.inr rfl)) pgs_nil)))
      (pss_one (ps_set (i := 1) scLHT.nd rfl (by first | exact Or.inl rfl | exact Or.inr rfl) (pe_op op_add_str (pe_op op_add_str (pe_op op_add_str (pe_op op_add_str (pv 1) pe_str) (pe_callTy call_str_int (by rfl) B.str_ boot_str (pa_cons (pv 7) pa_nil))) pe_str) (pe_callTy call_str_int (by rfl) B.str_ boot_str (pa_cons (pv 8) pa_nil))))))
      (pss_one (ps_for PassesOwn.never rfl (pi_tup (pv 6)) (pg_tup (by rfl) (pgs_cons (pg_name (i := 7) scLHT.nd rfl (by first | exact Or.inl rfl | exact Or.inr rfl)) (pgs_cons (pg_name (i := 9) scLHT.nd rfl (by first | exact Or.inl rfl | exact Or.inr rfl)) pgs_nil)))
      (pss_one (ps_set (i := 1) scLHT.nd rfl (by first | exact Or.inl rfl | exact Or.inr rfl) (pe_op op_add_str (pe_op op_add_str (pe_op op_add_str (pv 1) pe_str) (pe_callTy call_str_int (by rfl) B.str_ boot_str (pa_cons (pv 7) pa_nil))) (pe_ix ix_list (pe_lst (pa_cons pe_str (pa_cons pe_str pa_nil))) (pe_callTy call_int1 (by rfl) B.int_ boot_int (pa_cons (pe_cmpR op_lt (pv 9) pe_int (nomark _)) pa_nil)) (fun _ _ => rfl))))))))))
      (pss_one (ps_ret (pv 1)))), ?_⟩
    obtain ⟨a, b, ys, rfl, ea, eb, db, _, _⟩ := house_is hv
    have ly := db.len
    rw [List.length_map] at ly
    have n1 := ok.n1
    have n16 := ok.n16
    have sz : (20000 : Nat) ≤ sizeLine := by decide
    have cl := comma_len
    have bl := blank_len
    have xl := cross_len
    refine ⟨.ref a, rfl, a, _, 0, .int n, rfl, rfl, SqT.of ea, atI_nat (j := 0) rfl, n, rfl, tx_log (by omega) (by omega), ?_⟩
    refine ⟨.ref a, rfl, a, _, 1, .ref b, rfl, rfl, SqT.of ea, atI_nat (j := 1) rfl, b, rfl, ⟨_, SqT.of eb⟩, for_tup (K := K) (a := b) (xs := ys) (fun i σ J => Keep [] H J ∧ ∃ (s2 s3 s4 s5 s6 s7 s8 s9 : Option V), σ = [some (.ref a), some (.str (htx n (ps.take i))), s2, s3, s4, s5, s6, s7, s8, s9]) ⟨Keep.refl _ _, none, none, none, none, none, none, none, none, ?_⟩ (fun i σ J _ z => SqT.of (z.1 b _ eb List.not_mem_nil)) (fun i x σ J hx z => ?_) (fun σ J z => ?_)⟩
    · rw [List.take_zero, htx_nil]; rfl
    · obtain ⟨kJ, s2, s3, s4, s5, s6, s7, s8, s9, rfl⟩ := z
      obtain ⟨d, hd, dx⟩ := (db.keep (Keep.of kJ)).getv i hx
      rw [List.getElem?_map] at hd
      obtain ⟨p, gp, rfl⟩ := Option.map_eq_some_iff.mp hd
      have okp := ok.ok p (List.mem_of_getElem? gp)
      obtain ⟨pa, v3, v4, rfl, ep, d3, d4⟩ := pipe_is dx
      have a1 := okp.x0
      have a2 := okp.x1
      have a3 := okp.y0
      have a4 := okp.y1
      have a5 := okp.fit.l1
      have a6 := okp.fit.l2
      have nle := okp.fit.nle
      have fle := okp.fit.fle
      have hb := htx_take ok i
      have w1 := len15 a1 (by omega)
      have w2 := len15 a3 (by omega)
      have w3 := len15 (show 0 ≤ p.l by omega) (by omega)
      refine ⟨pa, _, rfl, SqT.of ep, rfl, _, _, rfl, _, _, rfl, _, _, rfl, _, _, rfl, _, [], rfl, rfl, ?_⟩
      refine ⟨.str (htx n (ps.take i)), rfl, _, commaT, rfl, rfl, by omega, .int p.x, rfl, p.x, rfl, tx_log a1 (by omega), _, tx p.x, rfl, rfl, by rw [len_app]; omega, _, blankT, rfl, rfl, by rw [len_app, len_app]; omega, .int p.y, rfl, p.y, rfl, tx_log a3 (by omega), _, tx p.y, rfl, rfl, by rw [len_app, len_app, len_app]; omega, _, blankT, rfl, rfl, by rw [len_app, len_app, len_app, len_app]; omega, .int p.l, rfl, p.l, rfl, tx_log (by omega) (by omega), _, tx p.l, rfl, rfl, by rw [len_app, len_app, len_app, len_app, len_app]; omega, ?_⟩
      obtain ⟨c, zs, rfl, _, ec, dc⟩ := tup_at d3
      have lz := dc.len
      rw [List.length_map] at lz
      have fk := fit_na okp
      have ff := fit_fl okp
      have wo := wds_ok okp n16
      have pb : (htx n (ps.take i) ++ commaT ++ tx p.x).length ≤ 6100 := by rw [len_app, len_app]; omega
      refine ⟨.ref c, rfl, c, rfl, ⟨_, SqT.of ec⟩, for_tup (K := K) (a := c) (xs := zs) (fun j σ G => G = J ∧ ∃ (s7 s8 : Option V), σ = [some (.ref a), some (.str (gr (htx n (ps.take i) ++ commaT ++ tx p.x) ([tx p.y, tx p.l] ++ (p.na.take j).map ktx))), some (.int p.x), some (.int p.y), some (.int p.l), some (.ref c), some v4, s7, s8, s9]) ⟨rfl, s7, s8, ?_⟩ (fun j σ G _ z => by rw [z.1]; exact SqT.of ec) (fun j x σ G hx z => ?_) (fun σ G z => ?_)⟩
      · rw [List.take_zero, List.map_nil, List.append_nil]; rfl
      · obtain ⟨rfl, s7, s8, rfl⟩ := z
        obtain ⟨d, hd, dy⟩ := dc.getv j hx
        rw [List.getElem?_map] at hd
        obtain ⟨k, gk, rfl⟩ := Option.map_eq_some_iff.mp hd
        obtain ⟨e, rfl, ee⟩ := pr_at dy
        have ok1 := fk k (List.mem_of_getElem? gk)
        have c1 := len15 ok1.1 ok1.2.1
        have c2 := len15 ok1.2.2.1 ok1.2.2.2
        have gl := gr_len (b := htx n (ps.take i) ++ commaT ++ tx p.x) (ws := [tx p.y, tx p.l] ++ (p.na.take j).map ktx) fun y m => (wo y (ws_sub1 y m)).l
        have wl : ([tx p.y, tx p.l] ++ (p.na.take j).map ktx).length ≤ 5 := by rw [List.length_append, List.length_map, List.length_take]; show 2 + _ ≤ 5; omega
        refine ⟨e, _, rfl, SqT.of ee, rfl, _, _, rfl, _, [], rfl, rfl, ?_⟩
        refine ⟨.str _, rfl, _, blankT, rfl, rfl, by omega, .int k.1, rfl, k.1, rfl, tx_log ok1.1 (Int.le_of_lt ok1.2.1), _, tx k.1, rfl, rfl, by rw [len_app]; omega, _, crossT, rfl, rfl, by rw [len_app, len_app]; omega, .int k.2, rfl, k.2, rfl, tx_log ok1.2.2.1 (Int.le_of_lt ok1.2.2.2), _, tx k.2, rfl, rfl, by rw [len_app, len_app, len_app]; omega, ?_⟩
        refine ⟨rfl, some (V.int k.1), some (V.int k.2), ?_⟩
        rw [List.take_add_one, gk, List.map_append, ← List.append_assoc]
        show _ = [_, some (V.str (gr _ (_ ++ [ktx k]))), _, _, _, _, _, _, _, _]
        rw [gr_snoc, add_ktx]; rfl
      · obtain ⟨rfl, s7, s8, rfl⟩ := z
        rw [lz, List.take_length]
        obtain ⟨f, us, rfl, _, ef, df⟩ := tup_at d4
        have lu := df.len
        rw [List.length_map] at lu
        refine ⟨.ref f, rfl, f, rfl, ⟨_, SqT.of ef⟩, for_tup (K := K) (a := f) (xs := us) (fun j σ Z => Keep [] G Z ∧ ∃ (s7 s8 s9 : Option V), σ = [some (.ref a), some (.str (gr (htx n (ps.take i) ++ commaT ++ tx p.x) ([tx p.y, tx p.l] ++ p.na.map ktx ++ (p.fl.take j).map ftx))), some (.int p.x), some (.int p.y), some (.int p.l), some (.ref c), some (.ref f), s7, s8, s9]) ⟨Keep.refl _ _, s7, s8, s9, ?_⟩ (fun j σ Z _ z => SqT.of (z.1 f _ ef List.not_mem_nil)) (fun j x σ Z hx z => ?_) (fun σ Z z => ?_)⟩
        · rw [List.take_zero, List.map_nil, List.append_nil]
        · obtain ⟨kZ, s7, s8, s9, rfl⟩ := z
          obtain ⟨d, hd, dy⟩ := df.getv j hx
          rw [List.getElem?_map] at hd
          obtain ⟨⟨ka, kb⟩, gk, rfl⟩ := Option.map_eq_some_iff.mp hd
          obtain ⟨e, rfl, ee⟩ := pr_at dy
          obtain ⟨f1, f2, f3⟩ := ff (ka, kb) (List.mem_of_getElem? gk)
          have c1 : (tx ka).length ≤ 15 := len15 f1 f2
          have hf1 : forthT.length = 1 := by decide +kernel
          have hf2 : backT.length = 1 := by decide +kernel
          have gl := gr_len (b := htx n (ps.take i) ++ commaT ++ tx p.x) (ws := [tx p.y, tx p.l] ++ p.na.map ktx ++ (p.fl.take j).map ftx) fun y m => (wo y (ws_sub2 y m)).l
          have wl : ([tx p.y, tx p.l] ++ p.na.map ktx ++ (p.fl.take j).map ftx).length ≤ 8 := by rw [List.length_append, List.length_append, List.length_map, List.length_map, List.length_take]; show 2 + _ + _ ≤ 8; omega
          refine ⟨e, _, rfl, SqT.of (kZ e _ ee List.not_mem_nil), rfl, _, _, rfl, _, [], rfl, rfl, ?_⟩
          refine ⟨.str _, rfl, _, blankT, rfl, rfl, by omega, .int ka, rfl, ka, rfl, tx_log f1 (Int.le_of_lt f2), _, tx ka, rfl, rfl, by rw [len_app]; omega, show 2 ≤ sizeLine by decide, fun L nL => ?_⟩
          have kk : Keep [] G (upd Z L (.lst [.str forthT, .str backT])) := kZ.trans (Keep.new nL)
          have eq1 : ∀ w : Str, w = (if kb = 1 then forthT else backT) → gr (htx n (ps.take i) ++ commaT ++ tx p.x) ([tx p.y, tx p.l] ++ p.na.map ktx ++ (p.fl.take (j + 1)).map ftx) = gr (htx n (ps.take i) ++ commaT ++ tx p.x) ([tx p.y, tx p.l] ++ p.na.map ktx ++ (p.fl.take j).map ftx) ++ blankT ++ tx ka ++ w := fun w hw => by
            rw [List.take_add_one, gk, List.map_append, ← List.append_assoc]
            show gr _ (_ ++ [ftx (ka, kb)]) = _
            rw [gr_snoc, add_ftx, hw]
          have f3' : kb = 1 ∨ kb = -1 := f3
          rcases f3' with rfl | rfl
          · refine ⟨.int 1, rfl, 1, 0, rfl, rfl, .inr ⟨_, rfl, L, _, 0, .str forthT, rfl, rfl, SqL.of upd_same, rfl, _, forthT, rfl, rfl, by rw [len_app, len_app]; omega, kk, some (V.int ka), s8, some (V.int 1), ?_⟩⟩
            rw [eq1 forthT rfl]; rfl
          · refine ⟨.int (-1), rfl, -1, 0, rfl, rfl, .inr ⟨_, rfl, L, _, 1, .str backT, rfl, rfl, SqL.of upd_same, rfl, _, backT, rfl, rfl, by rw [len_app, len_app]; omega, kk, some (V.int ka), s8, some (V.int (-1)), ?_⟩⟩
            rw [eq1 backT rfl]; rfl
        · obtain ⟨kZ, s7, s8, s9, rfl⟩ := z
          refine ⟨kJ.trans kZ, some (V.int p.x), some (V.int p.y), some (V.int p.l), some (V.ref c), some (V.ref f), s7, s8, s9, ?_⟩
          rw [lu, List.take_length, List.take_add_one, gp]
          show _ = [_, some (V.str (htx n (ps.take i ++ [p]))), _, _, _, _, _, _, _, _]
          rw [htx_snoc, gr_app]
          unfold pitx
          rw [show wds p = tx p.x :: ([tx p.y, tx p.l] ++ p.na.map ktx ++ p.fl.map ftx) by unfold wds; simp, gr_join]
    · obtain ⟨kJ, s2, s3, s4, s5, s6, s7, s8, s9, rfl⟩ := z
      rw [ly, List.take_length]
      exact ⟨_, rfl, q J kJ⟩
abbrev sLW : Stmt := topS 43
abbrev nLW : List Str := ["_law_stream_here", "_law_house", "_law_pipes", "_law_one", "_law_other", "_law_length", "_law_narrows", "_law_flaps", "_law_at", "_law_width", "_law_wide_here"]
theorem scLW : FnScope nLW ["_law_stream_here", "_law_house"] (defScope sLW) := ⟨rfl, rfl, rfl, by decide +kernel, rfl, by decide +kernel, by decide +kernel⟩
def spLW : Sp := fun vs H Q _ => ∃ (D C : Addr) (b : Int) (av : List Addr) (v : V) (n : Int) (ps : List Pi), vs = [.ref D, v] ∧ Dq H D C b ∧ 0 ≤ b ∧ b ≤ 90000 ∧ Tr av H ∧ D ∈ av ∧ Dt av H v (houseD n (ps.map Pi.dat)) ∧ okH n ps ∧
  ∀ H' (r : Addr) qs, Keep [D] H H' → Dq H' D C (b + 200) → Dt av H' (.ref r) (houseD n (qs.map Pi.dat)) → okH n qs → Q (.ref r) H'
theorem ok_lW (h : Has K mg "_law_wide" sLW) (B : Blt mg) (CF : Can P w K mg base "_law_far" ["_law_stream_here", "_law_most"] 2 spFar) : Can P w K mg base "_law_wide" ["_law_stream_here", "_law_house"] 3 spLW := by
  obtain ⟨f, fd, F, g⟩ := h
  refine ⟨f, fd, F.ok (k := 2) scLW (fun vs H Q E h => ?_) (fun cdv A outer s H vs Q E hr h => ?_), g, F.kp, F.binds fun _ _ _ _ _ _ us hl => match us, hl with | [_, _], _ => rfl⟩
  · obtain ⟨D, C, b, av, v, n, ps, rfl, _⟩ := h
    rfl
  · obtain ⟨D, C, b, av, v, n, ps, rfl, dk, b0, hb, tr, mD, hv, ok, q⟩ := h
    refine ⟨_, pss_cons (ps_set (i := 2) scLW.nd rfl (by first | exact Or.inl rfl | exact Or.inr rfl) (pe_lst pa_nil))
      (pss_cons (ps_for PassesOwn.never rfl (pi_tup (pe_ix ix_tup (pv 1) pe_int (fun _ _ => rfl))) (pg_tup (by rfl) (pgs_cons (pg_name (i := 3) scLW.nd rfl (by first | exact Or.inl rfl | exact Or.inr rfl)) (pgs_cons (pg_name (i := 4) scLW.nd rfl (by first | exact Or.inl rfl | exact Or.inr rfl)) (pgs_cons (pg_name (i := 5) scLW.nd rfl (by first | exact Or.inl rfl | exact Or.inr rfl)) (pgs_cons (pg_name (i := 6) scLW.nd rfl (by first | exact Or.inl rfl | exact Or.inr rfl)) (pgs_cons (pg_name (i := 7) scLW.nd rfl (by first | exact Or.inl rfl | exact Or.inr rfl)) pgs_nil))))))
      (pss_cons (ps_set (i := 10) scLW.nd rfl (by first | exact Or.inl rfl | exact Or.inr rfl) (pe_callTy call_tuple_of (by rfl) B.tuple_ boot_tuple (pa_cons (pe_lc (own := [("_law_at", 8), ("_law_width", 9)]) (tt := tYes) rfl scLW.nd (pi_tup (pv 6)) (blkOk_by (N := nLW) (sc := defScope sLW) (by decide +kernel)) (fun _ _ _ _ _ => (pg_tupK (K := K) (n := 2) rfl (by rfl) (pgs_cons (pg_name (i := 8) scLW.nd rfl (by first | exact Or.inl rfl | exact Or.inr rfl)) (pgs_cons (pg_name (i := 9) scLW.nd rfl (by first | exact Or.inl rfl | exact Or.inr rfl)) pgs_nil)))) (fun _ _ _ _ _ => pts_nil) (fun _ _ _ _ _ => (pe_tup (pa_cons (pv 8) (pa_cons (pe_op op_add pe_int (pe_can CF (hr.mono (by decide)) (by rfl) (pa_cons (pv 0) (pa_cons (pe_op op_pow pe_int pe_int) pa_nil)))) pa_nil))))) pa_nil)))
      (pss_one (ps_expr (pe_bm PySem.F.plainAttrs_list PySem.F.slot_list_append PySem.F.type_list_append mt_append (pv 2) (pa_cons (pe_tup (pa_cons (pv 3) (pa_cons (pv 4) (pa_cons (pv 5) (pa_cons (pv 10) (pa_cons (pv 7) pa_nil)))))) pa_nil))))))
      (pss_one (ps_ret (pe_tup (pa_cons (pe_ix ix_tup (pv 1) pe_int (fun _ _ => rfl)) (pa_cons (pe_callTy call_tuple_of (by rfl) B.tuple_ boot_tuple (pa_cons (pv 2) pa_nil)) pa_nil)))))), ?_⟩
    obtain ⟨a, b', ys, rfl, ea, eb, db, na, nb⟩ := house_is hv
    have ly := db.len
    rw [List.length_map] at ly
    have n1 := ok.n1
    have n16 := ok.n16
    have lps := ok.len
    refine ⟨show 0 ≤ sizeLine by decide, fun Pp nPp => ?_⟩
    have nPD := (dk.nes nPp).1
    have nPav := tr.not nPp
    have naD : a ∉ [D] := fun m => na (one_in mD a m)
    have nbD : b' ∉ [D] := fun m => nb (one_in mD b' m)
    have k1 : Keep [D] H (upd H Pp (.lst [])) := Keep.new nPp
    have d1 := dk.new (o := .lst []) nPp
    have eP : (upd H Pp (.lst [])) Pp = some (.lst []) := upd_same
    generalize upd H Pp (.lst []) = H1 at k1 d1 eP ⊢
    refine ⟨.ref a, rfl, a, _, 1, .ref b', rfl, rfl, SqT.of (k1 a _ ea naD), atI_nat (j := 1) rfl, b', rfl, ⟨_, SqT.of (k1 b' _ eb nbD)⟩, for_tup (K := K) (a := b') (xs := ys) (fun i σ G => ∃ (s3 s4 s5 s6 s7 s8 s9 s10 : Option V) (us : List V) (qs : List Pi), σ = [some (.ref D), some (.ref a), some (.ref Pp), s3, s4, s5, s6, s7, s8, s9, s10] ∧ Keep [D] H G ∧ Dq G D C (b + 9 * i) ∧ us.length = i ∧ G Pp = some (.lst us) ∧ Dts (Pp :: av) G us (qs.map Pi.dat) ∧ F2 (ps.take i) qs)
      ⟨none, none, none, none, none, none, none, none, [], [], rfl, k1, d1.mono (by omega), rfl, eP, .nil, .nil⟩ (fun i σ G _ z => ?_) (fun i x σ G hx z => ?_) (fun σ G z => ?_)⟩
    · obtain ⟨s3, s4, s5, s6, s7, s8, s9, s10, us, qs, rfl, kG, _⟩ := z
      exact SqT.of (kG b' _ eb nbD)
    · obtain ⟨s3, s4, s5, s6, s7, s8, s9, s10, us, qs, rfl, kG, dG, lu, eG, du, f2⟩ := z
      have mP : D ∈ Pp :: av := List.mem_cons_of_mem _ mD
      have kv : Keep (Pp :: av) H G := kG.mono (one_in mP)
      obtain ⟨d, hd, dx⟩ := ((db.more nPp).keep kv).getv i hx
      rw [List.getElem?_map] at hd
      obtain ⟨p, gp, rfl⟩ := Option.map_eq_some_iff.mp hd
      have okp := ok.ok p (List.mem_of_getElem? gp)
      have nle := okp.fit.nle
      have hi : i < ps.length := (List.getElem?_eq_some_iff.mp gp).1
      obtain ⟨pa, v3, v4, rfl, ep, d3, d4⟩ := pipe_isA dx
      obtain ⟨c, zs, rfl, nc, ec, dc⟩ := tup_at d3
      have lz := dc.len
      rw [List.length_map] at lz
      have tG : Tr av G := tr.kp kG dG.tr
      refine ⟨pa, _, rfl, SqT.of ep, rfl, _, _, rfl, _, _, rfl, _, _, rfl, _, _, rfl, _, [], rfl, rfl, ?_⟩
      refine ⟨.ref c, rfl, c, rfl, ⟨_, SqT.of ec⟩, fun W nW => ?_⟩
      have nWD := (dG.nes nW).1
      have nPW : Pp ≠ W := ne_of_none eG nW
      refine lc_tup (K := K) (a := c) (xs := zs) (fun j J => Keep [D] G J ∧ Dq J D C (b + 9 * i + 3 * j) ∧ ∃ (vs : List V) (ks : List (Int × Int)), ks.map Prod.fst = (p.na.take j).map Prod.fst ∧ (∀ k ∈ ks, 1 ≤ k.2 ∧ k.2 ≤ 1000000) ∧ vs.length = j ∧ J W = some (.lst vs) ∧ Dts (W :: Pp :: av) J vs (ks.map prD))
        ⟨Keep.new nW, (dG.new nW).mono (by omega), [], [], rfl, fun _ z => absurd z List.not_mem_nil, rfl, upd_same, .nil⟩ (fun j J _ z => SqT.of (z.1 c _ ec (fun m => nc (one_in mP c m)))) (fun j x J hx z => ?_) (fun J z => ?_)
      · obtain ⟨kJ, dJ, vs, ks, ek, sk, lv, eW, dv⟩ := z
        obtain ⟨d, hd, dy⟩ := dc.getv j hx
        rw [List.getElem?_map] at hd
        obtain ⟨k, gk, rfl⟩ := Option.map_eq_some_iff.mp hd
        obtain ⟨e, rfl, ne, ee⟩ := pr_atA dy
        have hj : j < p.na.length := (List.getElem?_eq_some_iff.mp gk).1
        refine ⟨e, _, rfl, SqT.of (kJ e _ ee (fun m => ne (one_in mP e m))), rfl, _, _, rfl, _, [], rfl, rfl, rfl, ?_⟩
        refine ⟨.int k.1, rfl, .ref D, rfl, 10, 6, rfl, rfl, ⟨by decide, by decide, by decide⟩, D, C, _, _, rfl, by decide, by decide, dJ, by omega, fun J1 g kg dg g0 g1 => ?_⟩
        rw [e6] at g1
        refine ⟨1, g, rfl, rfl, show 2 ≤ sizeLine by decide, fun T nT => ?_⟩
        have eW1 := kg W _ eW (not1 nWD)
        have eP1 : J1 Pp = some (.lst us) := kg Pp _ (kJ Pp _ eG (not1 nPD)) (not1 nPD)
        have tJ1 : Tr (W :: Pp :: av) J1 := Tr.cons (Tr.cons ((tG.kp kJ dJ.tr).kp kg dg.tr) eP1) eW1
        have kq : Keep [D] J (upd J1 T (.tup [.int k.1, .int (1 + g)])) := kg.trans (Keep.new nT)
        have eW2 : (upd J1 T (.tup [.int k.1, .int (1 + g)])) W = some (.lst vs) := st nT eW1
        have dT : Dt (W :: Pp :: av) (upd J1 T (.tup [.int k.1, .int (1 + g)])) (.ref T) (prD (k.1, 1 + g)) := .tup (tJ1.not nT) upd_same (.cons (.int _) (.cons (.int _) .nil))
        have d7 := dg.new (o := .tup [.int k.1, .int (1 + g)]) nT
        refine ⟨vs, eW2, by rw [lv]; exact small1000 (by omega), ?_, ?_, vs ++ [.ref T], ks ++ [(k.1, 1 + g)], ?_, ?_, by rw [List.length_append, lv]; rfl, upd_same, ?_⟩
        · exact (kJ.trans kq).upd nW
        · exact (d7.other nWD (dG.nes nW).2).mono (by omega)
        · rw [List.map_append, ek, List.take_add_one, gk, List.map_append]; rfl
        · intro y m
          rcases List.mem_append.mp m with m | m
          · exact sk y m
          · rw [List.mem_singleton.mp m]; exact ⟨by show 1 ≤ 1 + g; omega, by show 1 + g ≤ _; omega⟩
        · rw [List.map_append]
          exact lst_step dv (kq.mono fun a m => List.mem_cons_of_mem _ (List.mem_cons_of_mem _ (one_in mD a m))) dT
      · obtain ⟨kJ, dJ, vs, ks, ek, sk, lv, eW, dv⟩ := z
        rw [lz] at ek lv dJ
        rw [List.take_length] at ek
        have dv0 : Dts (Pp :: av) J vs (ks.map prD) := dv.less fun a m => List.mem_cons_of_mem _ m
        have ePJ : J Pp = some (.lst us) := kJ Pp _ eG (not1 nPD)
        have tJ : Tr (Pp :: av) J := Tr.cons (tG.kp kJ dJ.tr) ePJ
        refine ⟨W, vs, rfl, .inl ⟨SqL.of eW, fun T nT => ?_⟩⟩
        have eP2 : (upd J T (.tup vs)) Pp = some (.lst us) := st nT ePJ
        refine ⟨.ref Pp, rfl, .inl ⟨rfl, _, SqL.of eP2⟩, .int p.x, rfl, .int p.y, rfl, .int p.l, rfl, .ref T, rfl, v4, rfl, show 5 ≤ sizeLine by decide, fun R nR => ?_⟩
        have dT : Dt (Pp :: av) (upd J T (.tup vs)) (.ref T) (.tuple (ks.map prD)) := .tup (tJ.not nT) upd_same (dv0.keep (Keep.new nT))
        have kAll : Keep [D] G (upd (upd J T (.tup vs)) R (.tup [.int p.x, .int p.y, .int p.l, .ref T, v4])) := kJ.trans ((Keep.new nT).trans (Keep.new nR))
        have dR : Dt (Pp :: av) (upd (upd J T (.tup vs)) R (.tup [.int p.x, .int p.y, .int p.l, .ref T, v4])) (.ref R) (Pi.dat ⟨p.x, p.y, p.l, ks, p.fl⟩) := .tup (tJ.upd.not nR) upd_same (.cons (.int _) (.cons (.int _) (.cons (.int _) (.cons (dT.keep (Keep.new nR)) (.cons (d4.keep (kAll.mono fun a m => List.mem_cons_of_mem _ (one_in mD a m))) .nil)))))
        have d7 := ((dJ.new (o := .tup vs) nT).new (o := .tup [.int p.x, .int p.y, .int p.l, .ref T, v4]) nR)
        refine ⟨Pp, us, _, rfl, rfl, st nR eP2, by rw [lu]; exact small1000 (by omega), ?_⟩
        refine ⟨_, _, _, _, _, _, _, _, us ++ [.ref R], qs ++ [⟨p.x, p.y, p.l, ks, p.fl⟩], rfl, (kG.trans kAll).upd nPp, (d7.other nPD (dk.nes nPp).2).mono (by omega), by rw [List.length_append, lu]; rfl, upd_same, ?_, ?_⟩
        · rw [List.map_append]
          exact lst_step du (kAll.mono fun a m => List.mem_cons_of_mem _ (one_in mD a m)) dR
        · rw [List.take_add_one, gp]
          exact f2.snoc ⟨rfl, rfl, rfl, rfl, ek, sk⟩
    · obtain ⟨s3, s4, s5, s6, s7, s8, s9, s10, us, qs, rfl, kG, dG, lu, eG, du, f2⟩ := z
      rw [ly, List.take_length] at f2
      rw [ly] at dG
      have tG : Tr av G := tr.kp kG dG.tr
      have du0 : Dts av G us (qs.map Pi.dat) := du.less fun a m => List.mem_cons_of_mem _ m
      refine ⟨.ref a, rfl, a, _, 0, .int n, rfl, rfl, SqT.of (kG a _ ea naD), atI_nat (j := 0) rfl, .ref Pp, rfl, Pp, us, rfl, .inl ⟨SqL.of eG, fun T nT => ?_⟩⟩
      refine ⟨show 2 ≤ sizeLine by decide, fun R nR => ?_⟩
      have dT : Dt av (upd G T (.tup us)) (.ref T) (.tuple (qs.map Pi.dat)) := .tup (tG.not nT) upd_same (du0.keep (Keep.new nT))
      exact q _ R qs (kG.trans ((Keep.new nT).trans (Keep.new nR))) (((dG.new nT).new nR).mono (by omega)) (.tup (tG.upd.not nR) upd_same (.cons (.int _) (.cons (dT.keep (Keep.new nR)) .nil))) (f2.okH ok)
end
end Rw

namespace Rw
open PySem PySem.Spec PyProof.Rows L2
theorem e12 : (10 : Int) ^ Int.toNat 12 = 1000000000000 := by decide
theorem con_of {n : Int} {ps : List Pi} (h : ∀ r : Int, 1 ≤ r → r < n → ∃ p ∈ ps, p.y = r ∧ 0 ≤ p.x ∧ p.x < r) : Con n.toNat (edges ps) := con_up h
theorem sum_ins (f : Pi → Nat) (ps : List Pi) (q : Pi) (k : Nat) : ((ps.take k ++ [q] ++ ps.drop k).map f).sum = (ps.map f).sum + f q := by
  have e : (ps.map f).sum = ((ps.take k).map f).sum + ((ps.drop k).map f).sum := by rw [← List.sum_append, ← List.map_append, List.take_append_drop]
  rw [List.map_append, List.map_append, List.sum_append, List.sum_append, e]
  show _ + (f q + 0) + _ = _
  omega
theorem ins_mem {ps : List Pi} {q z : Pi} {k : Nat} : z ∈ ps.take k ++ [q] ++ ps.drop k ↔ z = q ∨ z ∈ ps := by
  rw [(ins_perm ps k q).mem_iff, List.mem_cons]
section
variable {P : Program} {w : World} {K : PySem.W.Frag} {mg : Str → Option Value} {base : Heap}
abbrev sFH : Stmt := topS 41
abbrev nFH : List Str := ["_law_stream_here", "_law_flaps", "_law_rooms", "_law_pipes", "_law_left", "_law_room", "_law_length", "_law_k", "_law_ats", "_law_at", "_law_narrow", "_law_hung", "_law_pipe"]
theorem scFH : FnScope nFH ["_law_stream_here", "_law_flaps"] (defScope sFH) := ⟨rfl, rfl, rfl, by decide +kernel, rfl, by decide +kernel, by decide +kernel⟩
def spFH : Sp := fun vs H Q _ => ∃ (D C : Addr) (b : Int) (av : List Addr), vs = [.ref D, .int 6] ∧ Dq H D C b ∧ 0 ≤ b ∧ b ≤ 50000 ∧ Tr av H ∧ D ∈ av ∧
  ∀ H' (r : Addr) n ps, Keep [D] H H' → Dq H' D C (b + 400) → Dt av H' (.ref r) (houseD n (ps.map Pi.dat)) → okH n ps → Q (.ref r) H'
theorem ok_fH (h : Has K mg "_law_far_house" sFH) (B : Blt mg) (CT : Can P w K mg base "_law_take" ["_law_stream_here", "_law_below"] 1 spTk) (CF : Can P w K mg base "_law_far" ["_law_stream_here", "_law_most"] 2 spFar) : Can P w K mg base "_law_far_house" ["_law_stream_here", "_law_flaps"] 3 spFH := by
  obtain ⟨f, fd, F, g⟩ := h
  refine ⟨f, fd, F.ok (k := 2) scFH (fun vs H Q E h => ?_) (fun cdv A outer s H vs Q E hr h => ?_), g, F.kp, F.binds fun _ _ _ _ _ _ us hl => match us, hl with | [_, _], _ => rfl⟩
  · obtain ⟨D, C, b, av, rfl, _⟩ := h
    rfl
  · obtain ⟨D, C, b, av, rfl, dk, b0, hb, tr, mD, q⟩ := h
    refine ⟨_, pss_cons (ps_set (i := 2) scFH.nd rfl (by first | exact Or.inl rfl | exact Or.inr rfl) (pe_op op_add pe_int (pe_can CT (hr.mono (by decide)) (by rfl) (pa_cons (pv 0) (pa_cons pe_int pa_nil)))))
      (pss_cons (ps_set (i := 3) scFH.nd rfl (by first | exact Or.inl rfl | exact Or.inr rfl) (pe_lst pa_nil))
      (pss_cons (ps_set (i := 4) scFH.nd rfl (by first | exact Or.inl rfl | exact Or.inr rfl) (pe_lst (pa_cons pe_int (pa_cons (pv 1) pa_nil))))
      (pss_cons (ps_for PassesOwn.never rfl (pi_range2 (by rfl) B.range_ (pa_cons pe_int (pa_cons (pv 2) pa_nil))) (pg_name (i := 5) scFH.nd rfl (by first | exact Or.inl rfl | exact Or.inr rfl))
      (pss_cons (ps_set (i := 6) scFH.nd rfl (by first | exact Or.inl rfl | exact Or.inr rfl) (pe_op op_add pe_int (pe_can CF (hr.mono (by decide)) (by rfl) (pa_cons (pv 0) (pa_cons (pe_op op_pow pe_int pe_int) pa_nil)))))
      (pss_cons (ps_setLc (i := 8) (own := [("_law_k", 7)]) (g := gName 7) (tt := tYes) rfl scFH.nd rfl rfl (sw_true rfl rfl rfl (by decide +kernel)) (pi_range1 (by rfl) B.range_ (pa_cons (pe_op op_mul (pe_can CT (hr.mono (by decide)) (by rfl) (pa_cons (pv 0) (pa_cons pe_int pa_nil))) (pe_callTy call_int1 (by rfl) B.int_ boot_int (pa_cons (pe_cmpR op_gt (pv 6) pe_int (nomark _)) pa_nil))) pa_nil)) (blkOk_by (N := nFH) (sc := defScope sFH) (by decide +kernel)) (fun _ _ _ _ _ => (pg_name (i := 7) scFH.nd rfl (by first | exact Or.inl rfl | exact Or.inr rfl))) (fun _ _ _ _ _ => pts_nil) (fun _ _ _ _ _ => (pe_op op_add pe_int (pe_can CF (hr.mono (by decide)) (by rfl) (pa_cons (pv 0) (pa_cons (pe_callB (call_max2 rfl) (by rfl) B.max_ boot_max (pa_cons pe_int (pa_cons (pe_op op_sub (pv 6) pe_int) pa_nil))) pa_nil))))))
      (pss_cons (ps_set (i := 10) scFH.nd rfl (by first | exact Or.inl rfl | exact Or.inr rfl) (pe_slice sl_list (pe_lc (own := [("_law_at", 9)]) (g := gName 9) (tt := tYes) rfl scFH.nd (pi_list (pe_callB (cr_sortedSet rfl) (by rfl) B.sorted_ boot_sorted (pa_cons (pe_callTy (cr_setL rfl) (by rfl) B.set_ boot_set (pa_cons (pv 8) pa_nil)) pa_nil))) (blkOk_by (N := nFH) (sc := defScope sFH) (by decide +kernel)) (fun _ _ _ _ _ => (pg_name (i := 9) scFH.nd rfl (by first | exact Or.inl rfl | exact Or.inr rfl))) (fun _ _ _ _ _ => pts_nil) (fun _ _ _ _ _ => (pe_tup (pa_cons (pv 9) (pa_cons (pe_op op_add pe_int (pe_can CT (hr.mono (by decide)) (by rfl) (pa_cons (pv 0) (pa_cons pe_int pa_nil)))) pa_nil))))) po_none (po_some (pe_ix ix_list (pv 4) pe_int (fun _ _ => rfl)))))
      (pss_cons (ps_set (i := 8) scFH.nd rfl (by first | exact Or.inl rfl | exact Or.inr rfl) (pe_slice sl_list (pe_lc (own := [("_law_k", 7)]) (g := gName 7) (tt := tYes) rfl scFH.nd (pi_range1 (by rfl) B.range_ (pa_cons (pe_can CT (hr.mono (by decide)) (by rfl) (pa_cons (pv 0) (pa_cons pe_int pa_nil))) pa_nil)) (blkOk_by (N := nFH) (sc := defScope sFH) (by decide +kernel)) (fun _ _ _ _ _ => (pg_name (i := 7) scFH.nd rfl (by first | exact Or.inl rfl | exact Or.inr rfl))) (fun _ _ _ _ _ => pts_nil) (fun _ _ _ _ _ => (pe_can CF (hr.mono (by decide)) (by rfl) (pa_cons (pv 0) (pa_cons (pv 6) pa_nil))))) po_none (po_some (pe_ix ix_list (pv 4) pe_int (fun _ _ => rfl)))))
      (pss_cons (ps_setLc (i := 11) (own := [("_law_at", 9)]) (g := gName 9) (tt := tYes) rfl scFH.nd rfl rfl (sw_true rfl rfl rfl (by decide +kernel)) (pi_list (pv 8)) (blkOk_by (N := nFH) (sc := defScope sFH) (by decide +kernel)) (fun _ _ _ _ _ => (pg_name (i := 9) scFH.nd rfl (by first | exact Or.inl rfl | exact Or.inr rfl))) (fun _ _ _ _ _ => pts_nil) (fun _ _ _ _ _ => (pe_tup (pa_cons (pv 9) (pa_cons (pe_ix (ix_listK (K := K) rfl) (pe_lst (pa_cons pe_int (pa_cons (pe_un un_neg pe_int) pa_nil))) (pe_can CT (hr.mono (by decide)) (by rfl) (pa_cons (pv 0) (pa_cons pe_int pa_nil))) (fun _ _ => rfl)) pa_nil)))))
      (pss_cons (ps_set (i := 4) scFH.nd rfl (by first | exact Or.inl rfl | exact Or.inr rfl) (pe_lst (pa_cons (pe_op op_sub (pe_ix ix_list (pv 4) pe_int (fun _ _ => rfl)) (pe_callB call_len_seq (by rfl) B.len_ PySem.boot_len (pa_cons (pv 10) pa_nil))) (pa_cons (pe_op op_sub (pe_ix ix_list (pv 4) pe_int (fun _ _ => rfl)) (pe_callB call_len_seq (by rfl) B.len_ PySem.boot_len (pa_cons (pv 11) pa_nil))) pa_nil))))
      (pss_cons (ps_set (i := 12) scFH.nd rfl (by first | exact Or.inl rfl | exact Or.inr rfl) (pe_tup (pa_cons (pe_can CT (hr.mono (by decide)) (by rfl) (pa_cons (pv 0) (pa_cons (pv 5) pa_nil))) (pa_cons (pv 5) (pa_cons (pv 6) (pa_cons (pe_callTy call_tuple_of (by rfl) B.tuple_ boot_tuple (pa_cons (pv 10) pa_nil)) (pa_cons (pe_callTy call_tuple_of (by rfl) B.tuple_ boot_tuple (pa_cons (pv 11) pa_nil)) pa_nil)))))))
      (pss_one (ps_expr (pe_bm PySem.F.plainAttrs_list PySem.F.slot_list_insert PySem.F.type_list_insert mt_insert (pv 3) (pa_cons (pe_can CT (hr.mono (by decide)) (by rfl) (pa_cons (pv 0) (pa_cons (pe_op op_add (pe_callB call_len_seq (by rfl) B.len_ PySem.boot_len (pa_cons (pv 3) pa_nil)) pe_int) pa_nil))) (pa_cons (pv 12) pa_nil)))))))))))))
      (pss_one (ps_ret (pe_tup (pa_cons (pv 2) (pa_cons (pe_callTy call_tuple_of (by rfl) B.tuple_ boot_tuple (pa_cons (pv 3) pa_nil)) pa_nil)))))))), ?_⟩
    refine ⟨.ref D, rfl, D, C, b, 15, rfl, by decide, by decide, dk, by omega, fun H1 t k1 d1 t0 t15 => ?_⟩
    refine ⟨2, t, rfl, rfl, ?_⟩
    have hn1 : 2 ≤ 2 + t := by omega
    have hn2 : 2 + t ≤ 16 := by omega
    dsimp only
    generalize 2 + t = n at hn1 hn2 ⊢
    refine ⟨show 0 ≤ sizeLine by decide, fun Pp nP => ?_⟩
    refine ⟨.int 6, rfl, show 2 ≤ sizeLine by decide, fun L0 nL0 => ?_⟩
    have zP := d1.nes nP
    have d2 := d1.new (o := .lst []) nP
    have zL := d2.nes nL0
    have d3 := d2.new (o := .lst [.int 12, .int 6]) nL0
    have kk : Keep [D] H (upd (upd H1 Pp (.lst [])) L0 (.lst [.int 12, .int 6])) := k1.trans ((Keep.new nP).trans (Keep.new nL0))
    have eP : (upd (upd H1 Pp (.lst [])) L0 (.lst [.int 12, .int 6])) Pp = some (.lst []) := st nL0 upd_same
    have eL : (upd (upd H1 Pp (.lst [])) L0 (.lst [.int 12, .int 6])) L0 = some (.lst [.int 12, .int 6]) := upd_same
    have fP : H Pp = none := d1.free k1 nP
    generalize upd (upd H1 Pp (.lst [])) L0 (.lst [.int 12, .int 6]) = H2 at d3 kk eP eL ⊢
    refine ⟨.int n, rfl, 1, n, rfl, ⟨by decide, by decide, by omega, by omega⟩, for_range (lo := 1) (n := (n - 1).toNat)
      (fun i σ G => ∃ (s5 s6 s7 s8 s9 s10 s11 s12 : Option V) (L : Addr) (l0 l1 : Int) (us : List V) (ps : List Pi), σ = [some (.ref D), some (.int 6), some (.int n), some (.ref Pp), some (.ref L), s5, s6, s7, s8, s9, s10, s11, s12] ∧ Keep [D] H G ∧ Dq G D C (b + 1 + 20 * i) ∧ G L = some (.lst [.int l0, .int l1]) ∧ L ≠ D ∧ 0 ≤ l0 ∧ 0 ≤ l1 ∧ l0 + ((ps.map fun p => p.na.length).sum : Nat) = 12 ∧ l1 + ((ps.map fun p => p.fl.length).sum : Nat) = 6 ∧ us.length = i ∧ ps.length = i ∧ G Pp = some (.lst us) ∧ Dts (Pp :: av) G us (ps.map Pi.dat) ∧ (∀ p ∈ ps, p.ok n) ∧ (∀ r : Int, 1 ≤ r → r < 1 + i → ∃ p ∈ ps, p.y = r ∧ 0 ≤ p.x ∧ p.x < r))
      ⟨none, none, none, none, none, none, none, none, L0, 12, 6, [], [], rfl, kk, d3.mono (by omega), eL, zL.1, by decide, by decide, rfl, rfl, rfl, rfl, eP, .nil, fun _ z => absurd z List.not_mem_nil, fun r r1 r2 => absurd r2 (by omega)⟩ (fun i σ G hi z => ?_) (fun σ G z => ?_)⟩
    · obtain ⟨s5, s6, s7, s8, s9, s10, s11, s12, L, l0, l1, us, ps, rfl, kG, dG, eL, nLD, l00, l10, sn, sf, lu, lp, eP, du, okp, cov⟩ := z
      refine ⟨.ref D, rfl, 10, 12, rfl, rfl, ⟨by decide, by decide, by decide⟩, D, C, _, _, rfl, by decide, by decide, dG, by omega, fun G1 x k1 d1 x0 x1 => ?_⟩
      rw [e12] at x1
      refine ⟨1, x, rfl, rfl, ?_⟩
      have hl1 : 1 ≤ 1 + x := by omega
      have hl2 : 1 + x ≤ 1000000000000 := by omega
      dsimp only
      generalize 1 + x = l at hl1 hl2 ⊢
      refine ⟨.ref D, rfl, D, C, _, 3, rfl, by decide, by decide, d1, by omega, fun G2 t k2 d2 t0 t3 => ?_⟩
      refine ⟨.int l, rfl, l, 1, rfl, rfl, .inr ⟨_, rfl, t, _, rfl, rfl, .inl ⟨by omega, by omega⟩, ?_⟩⟩
      have hm : 0 ≤ t * (if decide (1 < l) = true then 1 else 0) ∧ t * (if decide (1 < l) = true then 1 else 0) ≤ 2 ∧ (0 < t * (if decide (1 < l) = true then 1 else 0) → 1 < l) := by
        by_cases c : 1 < l
        · rw [decide_eq_true c, if_pos rfl]; exact ⟨by omega, by omega, fun _ => c⟩
        · rw [decide_eq_false c, if_neg (by decide)]; exact ⟨by omega, by omega, fun h => absurd h (by omega)⟩
      dsimp only
      generalize t * (if decide (1 < l) = true then 1 else 0) = m at hm ⊢
      obtain ⟨m0, m2, ml⟩ := hm
      refine ⟨m, rfl, by omega, by omega, fun Aa nA => ?_⟩
      have nAD := (d2.nes nA).1
      refine lc_range (lo := 0) (n := m.toNat) (fun j J => Keep [D] G2 J ∧ Dq J D C (b + 1 + 20 * i + 4 + 3 * j) ∧ ∃ cs : List Int, cs.length = j ∧ (∀ c ∈ cs, 1 ≤ c ∧ c ≤ l - 1) ∧ J Aa = some (.lst (cs.map V.int)))
        ⟨Keep.new nA, (d2.new nA).mono (by omega), [], rfl, fun _ z => absurd z List.not_mem_nil, upd_same⟩ (fun j J hj z => ?_) (fun J z => ?_)
      · obtain ⟨kJ, dJ, cs, lc, pc, eA⟩ := z
        have l1' : 1 < l := ml (by omega)
        refine ⟨rfl, .ref D, rfl, .int l, rfl, l, 1, rfl, rfl, 1, l - 1, rfl, D, C, _, _, rfl, ?_, ?_, dJ, by omega, fun J1 g kg dg g0 g1 => ?_⟩
        · split <;> omega
        · split <;> omega
        · have g2 : g < l - 1 := by revert g1; split <;> omega
          refine ⟨1, g, rfl, rfl, cs.map V.int, kg Aa _ eA (not1 nAD), by rw [List.length_map, lc]; exact small1000 (by omega), (kJ.trans kg).upd nA, (dg.other nAD (d2.nes nA).2).mono (by omega), cs ++ [1 + g], by rw [List.length_append, lc]; rfl, ?_, by rw [upd_same, List.map_append]; rfl⟩
          intro c mc
          rcases List.mem_append.mp mc with mc | mc
          · exact pc c mc
          · rw [List.mem_singleton.mp mc]; omega
      · obtain ⟨kJ, dJ, cs, lc, pc, eA⟩ := z
        have k3 : Keep [D] G J := k1.trans (k2.trans kJ)
        have dJ3 : Dq J D C (b + 1 + 20 * i + 10) := dJ.mono (by omega)
        have lc2 : cs.length ≤ 2 := by omega
        clear kJ dJ k1 k2 d1 d2
        refine ⟨.ref Aa, rfl, Aa, cs, rfl, SqL.of eA, by omega, fun sa c na hc => ?_⟩
        refine ⟨sa, _, c, rfl, upd_same, by omega, fun ns p pw mem ln np => ?_⟩
        generalize (cxOf CX0 P w K mg base nFH "_law_far_house" (defScope sFH) f cdv A outer s H E).nox.w = w' at np ⊢
        have eQ : (upd (upd J sa (SetO w' sa (fun j => decide (j ∈ cs)) c)) p (.lst (ns.map V.int))) p = some (.lst (ns.map V.int)) := upd_same
        have k4 : Keep [D] G (upd (upd J sa (SetO w' sa (fun j => decide (j ∈ cs)) c)) p (.lst (ns.map V.int))) := k3.trans ((Keep.new na).trans (Keep.new np))
        have d4 : Dq (upd (upd J sa (SetO w' sa (fun j => decide (j ∈ cs)) c)) p (.lst (ns.map V.int))) D C (b + 1 + 20 * i + 10) := (dJ3.new na).new np
        have nQD : p ≠ D := ((dJ3.new na).nes np).1
        generalize upd (upd J sa (SetO w' sa (fun j => decide (j ∈ cs)) c)) p (.lst (ns.map V.int)) = G4 at eQ k4 d4 ⊢
        have hns : ∀ n ∈ ns, 1 ≤ n ∧ n ≤ l - 1 := fun n hn => pc n (of_decide_eq_true ((mem n).mp hn))
        have lns : ns.length ≤ 2 := by omega
        have mP : D ∈ Pp :: av := List.mem_cons_of_mem _ mD
        have tP : ∀ {Z : Hp} {bb : Int}, Keep [D] G Z → Dq Z D C bb → Tr (Pp :: av) Z := fun {Z bb} kz dz => Tr.cons ((tr.kp kG dG.tr).kp kz dz.tr) (kz Pp _ eP (not1 zP.1))
        refine ⟨p, rfl, ⟨_, SqL.of eQ⟩, fun W nW => ?_⟩
        have nWD := (d4.nes nW).1
        refine lc_list (K := K) (a := p) (xs := ns.map V.int) (fun j Z => Keep [D] G4 Z ∧ Dq Z D C (b + 1 + 20 * i + 10 + j) ∧ ∃ (vs : List V) (ks : List (Int × Int)), ks.map Prod.fst = ns.take j ∧ (∀ k ∈ ks, 1 ≤ k.2 ∧ k.2 ≤ 1000000) ∧ vs.length = j ∧ Z W = some (.lst vs) ∧ Dts (W :: Pp :: av) Z vs (ks.map prD))
          ⟨Keep.new nW, (d4.new nW).mono (by omega), [], [], rfl, fun _ z => absurd z List.not_mem_nil, rfl, upd_same, .nil⟩ (fun j Z _ z => SqL.of (z.1 p _ eQ (not1 nQD))) (fun j x Z hx z => ?_) (fun Z z => ?_)
        · obtain ⟨kZ, dZ, vs, ks, ek, sk, lv, eW, dv⟩ := z
          rw [List.getElem?_map] at hx
          obtain ⟨y, hy, rfl⟩ := Option.map_eq_some_iff.mp hx
          have hj : j < ns.length := (List.getElem?_eq_some_iff.mp hy).1
          refine ⟨rfl, .int y, rfl, .ref D, rfl, D, C, _, 3, rfl, by decide, by decide, dZ, by omega, fun Z1 g kg dg g0 g1 => ?_⟩
          refine ⟨1, g, rfl, rfl, show 2 ≤ sizeLine by decide, fun T nT => ?_⟩
          have eW1 := kg W _ eW (not1 nWD)
          have tZ : Tr (W :: Pp :: av) Z1 := Tr.cons (tP (k4.trans (kZ.trans kg)) dg) eW1
          have kq : Keep [D] Z (upd Z1 T (.tup [.int y, .int (1 + g)])) := kg.trans (Keep.new nT)
          have dT : Dt (W :: Pp :: av) (upd Z1 T (.tup [.int y, .int (1 + g)])) (.ref T) (prD (y, 1 + g)) := .tup (tZ.not nT) upd_same (.cons (.int _) (.cons (.int _) .nil))
          have d7 := dg.new (o := .tup [.int y, .int (1 + g)]) nT
          refine ⟨vs, st nT eW1, by rw [lv]; exact small1000 (by omega), (kZ.trans kq).upd nW, (d7.other nWD (d4.nes nW).2).mono (by omega), vs ++ [.ref T], ks ++ [(y, 1 + g)], ?_, ?_, by rw [List.length_append, lv]; rfl, upd_same, ?_⟩
          · rw [List.map_append, ek, List.take_add_one, hy]; rfl
          · intro k mk
            rcases List.mem_append.mp mk with mk | mk
            · exact sk k mk
            · rw [List.mem_singleton.mp mk]; exact ⟨by show 1 ≤ 1 + g; omega, by show 1 + g ≤ _; omega⟩
          · rw [List.map_append]
            exact lst_step dv (kq.mono fun a m => List.mem_cons_of_mem _ (one_in mP a m)) dT
        · obtain ⟨kZ, dZ, vs, ks, ek, sk, lv, eW, dv⟩ := z
          rw [List.length_map, List.take_length] at ek
          rw [List.length_map] at lv dZ
          have k5 := k4.trans kZ
          have d5 : Dq Z D C (b + 1 + 20 * i + 12) := dZ.mono (by omega)
          have eLz := k5 L _ eL (not1 nLD)
          dsimp only [tNoPart, tPart]
          refine ⟨.ref L, rfl, L, _, 0, .int l0, rfl, rfl, SqL.of eLz, atI_nat (j := 0) rfl, l0, rfl, W, vs, rfl, SqL.of eW, fun Nn nN => ?_⟩
          have ec : cutV vs none (some l0) = vs.take l0.toNat := by
            rw [show (some l0) = some ((l0.toNat : Nat) : Int) by congr 1; omega, cut_to]
          rw [ec]
          have lk : ks.length = ns.length := by rw [← List.length_map (f := Prod.fst), ek]
          have K1 : ((ks.take l0.toNat).map Prod.fst).Pairwise (· < ·) := by rw [List.map_take, ek]; exact pw.sublist (List.take_sublist _ _)
          have K2 : ∀ k ∈ ks.take l0.toNat, 1 ≤ k.1 ∧ k.1 ≤ l - 1 ∧ 1 ≤ k.2 ∧ k.2 ≤ 1000000 := fun k mk => by
            have mk' := List.mem_of_mem_take mk
            have h1 := hns k.1 (by rw [← ek]; exact List.mem_map_of_mem mk')
            exact ⟨h1.1, h1.2, sk k mk'⟩
          have K3 : (ks.take l0.toNat).length ≤ 2 ∧ ((ks.take l0.toNat).length : Int) ≤ l0 := by rw [List.length_take]; omega
          have eN : (upd Z Nn (.lst (vs.take l0.toNat))) Nn = some (.lst (vs.take l0.toNat)) := upd_same
          have dN : Dts (Pp :: av) (upd Z Nn (.lst (vs.take l0.toNat))) (vs.take l0.toNat) ((ks.take l0.toNat).map prD) := by
            rw [List.map_take]
            exact ((dv.less fun a m => List.mem_cons_of_mem _ m).take _).keep (Keep.new nN)
          have lvk : (vs.take l0.toNat).length = (ks.take l0.toNat).length := by rw [List.length_take, List.length_take, lv, lk]
          have k6 : Keep [D] G (upd Z Nn (.lst (vs.take l0.toNat))) := k5.trans (Keep.new nN)
          have nND := (d5.nes nN).1
          have d6 := d5.new (o := .lst (vs.take l0.toNat)) nN
          generalize upd Z Nn (.lst (vs.take l0.toNat)) = G6 at eN dN k6 d6 ⊢
          generalize vs.take l0.toNat = vn at eN dN lvk
          generalize ks.take l0.toNat = kn at K1 K2 K3 dN lvk
          clear dv eW sk ek lv eLz d5 dZ kZ k5 k4 d4 eQ
          refine ⟨.ref D, rfl, D, C, _, 2, rfl, by decide, by decide, d6, by omega, fun G7 t' k7 d7 u0 u2 => ?_⟩
          refine ⟨t', rfl, by omega, by omega, fun Bb nB => ?_⟩
          have nBD := (d7.nes nB).1
          refine lc_range (lo := 0) (n := t'.toNat) (fun j J => Keep [D] G7 J ∧ Dq J D C (b + 1 + 20 * i + 13 + 3 * j) ∧ ∃ cs : List Int, cs.length = j ∧ (∀ c ∈ cs, 0 ≤ c ∧ c ≤ l - 1) ∧ J Bb = some (.lst (cs.map V.int)))
            ⟨Keep.new nB, (d7.new nB).mono (by omega), [], rfl, fun _ z => absurd z List.not_mem_nil, upd_same⟩ (fun j J hj z => ?_) (fun J z => ?_)
          · obtain ⟨kJ, dJ, cs, lc, pc, eB⟩ := z
            refine ⟨rfl, .ref D, rfl, .int l, rfl, D, C, _, _, rfl, by omega, by omega, dJ, by omega, fun J1 g kg dg g0 g1 => ?_⟩
            refine ⟨cs.map V.int, kg Bb _ eB (not1 nBD), by rw [List.length_map, lc]; exact small1000 (by omega), (kJ.trans kg).upd nB, (dg.other nBD (d7.nes nB).2).mono (by omega), cs ++ [g], by rw [List.length_append, lc]; rfl, ?_, by rw [upd_same, List.map_append]; rfl⟩
            intro c mc
            rcases List.mem_append.mp mc with mc | mc
            · exact pc c mc
            · rw [List.mem_singleton.mp mc]; omega
          · obtain ⟨kJ, dJ, cs, lc, pc, eB⟩ := z
            have k8 : Keep [D] G6 J := k7.trans kJ
            have k9 := k6.trans k8
            have d8 : Dq J D C (b + 1 + 20 * i + 16) := dJ.mono (by omega)
            have eL8 := k9 L _ eL (not1 nLD)
            dsimp only [tNoPart, tPart]
            refine ⟨.ref L, rfl, L, _, 1, .int l1, rfl, rfl, SqL.of eL8, atI_nat (j := 1) rfl, l1, rfl, Bb, _, rfl, SqL.of eB, fun B2 nB2 => ?_⟩
            have ec : cutV (cs.map V.int) none (some l1) = (cs.take l1.toNat).map V.int := by
              rw [show (some l1) = some ((l1.toNat : Nat) : Int) by congr 1; omega, cut_to, List.map_take]
            rw [ec]
            have C1 : (cs.take l1.toNat).length ≤ 1 ∧ ((cs.take l1.toNat).length : Int) ≤ l1 := by rw [List.length_take]; omega
            have C2 : ∀ c ∈ cs.take l1.toNat, 0 ≤ c ∧ c ≤ l - 1 := fun c m => pc c (List.mem_of_mem_take m)
            have eB2 : (upd J B2 (.lst ((cs.take l1.toNat).map V.int))) B2 = some (.lst ((cs.take l1.toNat).map V.int)) := upd_same
            have k10 : Keep [D] G6 (upd J B2 (.lst ((cs.take l1.toNat).map V.int))) := k8.trans (Keep.new nB2)
            have nB2D := (d8.nes nB2).1
            have d9 := d8.new (o := .lst ((cs.take l1.toNat).map V.int)) nB2
            generalize upd J B2 (.lst ((cs.take l1.toNat).map V.int)) = G8 at eB2 k10 d9 ⊢
            generalize cs.take l1.toNat = cz at C1 C2 eB2
            clear eB eL8 d8 k9 k8 dJ kJ pc lc
            refine ⟨.ref B2, rfl, B2, rfl, ⟨_, SqL.of eB2⟩, fun Hh nH => ?_⟩
            have nHD := (d9.nes nH).1
            refine lc_list (K := K) (a := B2) (xs := cz.map V.int) (fun j Z => Keep [D] G8 Z ∧ Dq Z D C (b + 1 + 20 * i + 16 + j) ∧ ∃ (vs : List V) (ks : List (Int × Int)), ks.map Prod.fst = cz.take j ∧ (∀ k ∈ ks, k.2 = 1 ∨ k.2 = -1) ∧ vs.length = j ∧ Z Hh = some (.lst vs) ∧ Dts (Hh :: Pp :: av) Z vs (ks.map prD))
              ⟨Keep.new nH, (d9.new nH).mono (by omega), [], [], rfl, fun _ z => absurd z List.not_mem_nil, rfl, upd_same, .nil⟩ (fun j Z _ z => SqL.of (z.1 B2 _ eB2 (not1 nB2D))) (fun j x Z hx z => ?_) (fun Z z => ?_)
            · obtain ⟨kZ, dZ, vs, ks, ek, sk, lv, eW, dv⟩ := z
              rw [List.getElem?_map] at hx
              obtain ⟨y, hy, rfl⟩ := Option.map_eq_some_iff.mp hx
              have hj : j < cz.length := (List.getElem?_eq_some_iff.mp hy).1
              refine ⟨rfl, .int y, rfl, 1, rfl, show 2 ≤ sizeLine by decide, fun M nM => ?_⟩
              refine ⟨.ref D, rfl, D, C, _, 2, rfl, by decide, by decide, dZ.new nM, by omega, fun Z1 g kg dg g0 g1 => ?_⟩
              have eM := kg M _ upd_same (not1 (dZ.nes nM).1)
              obtain ⟨ww, mw, gw⟩ := pick_at (xs := [1, -1]) g0 g1
              have hw : ww = 1 ∨ ww = -1 := by
                rcases List.mem_cons.mp mw with rfl | mw
                · exact .inl rfl
                · exact .inr (List.mem_singleton.mp mw)
              refine ⟨M, _, g, .int ww, rfl, rfl, SqL.of eM, gw, show 2 ≤ sizeLine by decide, fun T nT => ?_⟩
              have kh : Keep [D] Z Z1 := (Keep.new nM).trans kg
              have eW1 := kh Hh _ eW (not1 nHD)
              have tZ : Tr (Hh :: Pp :: av) Z1 := Tr.cons (tP (k6.trans (k10.trans (kZ.trans kh))) dg) eW1
              have kq : Keep [D] Z (upd Z1 T (.tup [.int y, .int ww])) := kh.trans (Keep.new nT)
              have dT : Dt (Hh :: Pp :: av) (upd Z1 T (.tup [.int y, .int ww])) (.ref T) (prD (y, ww)) := .tup (tZ.not nT) upd_same (.cons (.int _) (.cons (.int _) .nil))
              have d7' := dg.new (o := .tup [.int y, .int ww]) nT
              refine ⟨vs, st nT eW1, by rw [lv]; exact small1000 (by omega), (kZ.trans kq).upd nH, (d7'.other nHD (d9.nes nH).2).mono (by omega), vs ++ [.ref T], ks ++ [(y, ww)], ?_, ?_, by rw [List.length_append, lv]; rfl, upd_same, ?_⟩
              · rw [List.map_append, ek, List.take_add_one, hy]; rfl
              · intro k mk
                rcases List.mem_append.mp mk with mk | mk
                · exact sk k mk
                · rw [List.mem_singleton.mp mk]; exact hw
              · rw [List.map_append]
                exact lst_step dv (kq.mono fun a m => List.mem_cons_of_mem _ (one_in mP a m)) dT
            · obtain ⟨kZ, dZ, vs, ks, ek, sk, lv, eH, dv⟩ := z
              rw [List.length_map, List.take_length] at ek
              rw [List.length_map] at lv dZ
              have lk : ks.length = cz.length := by rw [← List.length_map (f := Prod.fst), ek]
              have k11 := k10.trans kZ
              have k12 := k6.trans k11
              have d10 : Dq Z D C (b + 1 + 20 * i + 17) := dZ.mono (by omega)
              have eLz := k12 L _ eL (not1 nLD)
              have eNz := k11 Nn _ eN (not1 nND)
              have dNz : Dts (Pp :: av) Z vn (kn.map prD) := dN.keep (k11.mono (one_in mP))
              have dHz : Dts (Pp :: av) Z vs (ks.map prD) := dv.less fun a m => List.mem_cons_of_mem _ m
              have ePz := k12 Pp _ eP (not1 zP.1)
              have duz : Dts (Pp :: av) Z us (ps.map Pi.dat) := du.keep (k12.mono (one_in mP))
              have H1' : (ks.map Prod.fst).Pairwise (· < ·) := by
                rw [ek]
                match cz, C1 with
                | [], _ => exact List.Pairwise.nil
                | [c], _ => exact List.pairwise_singleton _ _
                | _ :: _ :: _, C1 => exact absurd C1.1 (by rw [List.length_cons, List.length_cons]; omega)
              have H2' : ∀ k ∈ ks, 0 ≤ k.1 ∧ k.1 ≤ l - 1 ∧ (k.2 = 1 ∨ k.2 = -1) := fun k mk => by
                have := C2 k.1 (by rw [← ek]; exact List.mem_map_of_mem mk)
                exact ⟨this.1, this.2, sk k mk⟩
              refine ⟨.ref L, rfl, L, _, 0, .int l0, rfl, rfl, SqL.of eLz, atI_nat (j := 0) rfl, .ref Nn, rfl, Nn, _, rfl, .inl (SqL.of eNz), l0, _, rfl, rfl, .ref L, rfl, L, _, 1, .int l1, rfl, rfl, SqL.of eLz, atI_nat (j := 1) rfl, .ref Hh, rfl, Hh, _, rfl, .inl (SqL.of eH), l1, _, rfl, rfl, show 2 ≤ sizeLine by decide, fun Lx nLx => ?_⟩
              have eLx : (upd Z Lx (.lst [.int (l0 - (vn.length : Int)), .int (l1 - (vs.length : Int))])) Lx = some (.lst [.int (l0 - (vn.length : Int)), .int (l1 - (vs.length : Int))]) := upd_same
              have kx : Keep [D] Z (upd Z Lx (.lst [.int (l0 - (vn.length : Int)), .int (l1 - (vs.length : Int))])) := Keep.new nLx
              have d11 := d10.new (o := .lst [.int (l0 - (vn.length : Int)), .int (l1 - (vs.length : Int))]) nLx
              have nLxD := (d10.nes nLx).1
              dsimp only
              generalize upd Z Lx (.lst [.int (l0 - (vn.length : Int)), .int (l1 - (vs.length : Int))]) = Y at eLx kx d11 ⊢
              refine ⟨.ref D, rfl, .int (1 + (i : Int)), rfl, D, C, _, _, rfl, by omega, by omega, d11, by omega, fun Y1 x' kx1 d12 x0' x1' => ?_⟩
              have kz1 : Keep [D] Z Y1 := kx.trans kx1
              have eN1 := kz1 Nn _ eNz (not1 nND)
              have eH1 := kz1 Hh _ eH (not1 nHD)
              have t1 : Tr (Pp :: av) Y1 := tP (k12.trans kz1) d12
              refine ⟨.int (1 + (i : Int)), rfl, .int l, rfl, .ref Nn, rfl, Nn, vn, rfl, .inl ⟨SqL.of eN1, fun T1 nT1 => ?_⟩⟩
              refine ⟨.ref Hh, rfl, Hh, vs, rfl, .inl ⟨SqL.of (st nT1 eH1), fun T2 nT2 => ?_⟩⟩
              refine ⟨show 5 ≤ sizeLine by decide, fun R nR => ?_⟩
              have kv1 : Keep (Pp :: av) Z Y1 := kz1.mono (one_in mP)
              have dT1 : Dt (Pp :: av) (upd Y1 T1 (.tup vn)) (.ref T1) (.tuple (kn.map prD)) := .tup (t1.not nT1) upd_same (dNz.keep (kv1.trans (Keep.new nT1)))
              have dT2 : Dt (Pp :: av) (upd (upd Y1 T1 (.tup vn)) T2 (.tup vs)) (.ref T2) (.tuple (ks.map prD)) := .tup (t1.upd.not nT2) upd_same (dHz.keep (kv1.trans ((Keep.new nT1).trans (Keep.new nT2))))
              have dR : Dt (Pp :: av) (upd (upd (upd Y1 T1 (.tup vn)) T2 (.tup vs)) R (.tup [.int x', .int (1 + (i : Int)), .int l, .ref T1, .ref T2])) (.ref R) (Pi.dat ⟨x', 1 + (i : Int), l, kn, ks⟩) := .tup (t1.upd.upd.not nR) upd_same (.cons (.int _) (.cons (.int _) (.cons (.int _) (.cons (dT1.keep ((Keep.new nT2).trans (Keep.new nR))) (.cons (dT2.keep (Keep.new nR)) .nil)))))
              have kAll : Keep [D] Z (upd (upd (upd Y1 T1 (.tup vn)) T2 (.tup vs)) R (.tup [.int x', .int (1 + (i : Int)), .int l, .ref T1, .ref T2])) := kz1.trans ((Keep.new nT1).trans ((Keep.new nT2).trans (Keep.new nR)))
              have kLx : Keep [D] Y (upd (upd (upd Y1 T1 (.tup vn)) T2 (.tup vs)) R (.tup [.int x', .int (1 + (i : Int)), .int l, .ref T1, .ref T2])) := kx1.trans ((Keep.new nT1).trans ((Keep.new nT2).trans (Keep.new nR)))
              have d13 := ((d12.new (o := .tup vn) nT1).new (o := .tup vs) nT2).new (o := .tup [.int x', .int (1 + (i : Int)), .int l, .ref T1, .ref T2]) nR
              generalize upd (upd (upd Y1 T1 (.tup vn)) T2 (.tup vs)) R (.tup [.int x', .int (1 + (i : Int)), .int l, .ref T1, .ref T2]) = Y2 at dR kAll kLx d13 ⊢
              have eP2 := kAll Pp _ ePz (not1 zP.1)
              refine ⟨.ref Pp, rfl, .inl ⟨rfl, _, SqL.of eP2⟩, .ref D, rfl, .ref Pp, rfl, Pp, us, rfl, .inl (SqL.of eP2), _, 1, rfl, rfl, D, C, _, _, rfl, by omega, by omega, d13, by omega, fun Y3 k kk3 d14 k0 k1' => ?_⟩
              have eP3 := kk3 Pp _ eP2 (not1 zP.1)
              refine ⟨.ref R, rfl, Pp, us, k, .ref R, rfl, rfl, eP3, by rw [lu]; exact small1000 (by omega), k0, by omega, ?_⟩
              have i2 : (i : Int) < n - 1 := by omega
              have kfin : Keep [D] Z Y3 := kAll.trans kk3
              have okq : Pi.ok n ⟨x', 1 + (i : Int), l, kn, ks⟩ := ⟨x0', by show x' ≤ n - 1; omega, by show 0 ≤ 1 + (i : Int); omega, by show 1 + (i : Int) ≤ n - 1; omega, x1', ⟨hl1, hl2, K1, K2, H1', H2', by show kn.length ≤ 3; omega, by show ks.length ≤ 3; omega⟩⟩
              have s1 := sum_ins (fun p => p.na.length) ps ⟨x', 1 + (i : Int), l, kn, ks⟩ k.toNat
              have s2 := sum_ins (fun p => p.fl.length) ps ⟨x', 1 + (i : Int), l, kn, ks⟩ k.toNat
              have s1' : ((ps.take k.toNat ++ [(⟨x', 1 + (i : Int), l, kn, ks⟩ : Pi)] ++ ps.drop k.toNat).map fun p => p.na.length).sum = (ps.map fun p => p.na.length).sum + kn.length := s1
              have s2' : ((ps.take k.toNat ++ [(⟨x', 1 + (i : Int), l, kn, ks⟩ : Pi)] ++ ps.drop k.toNat).map fun p => p.fl.length).sum = (ps.map fun p => p.fl.length).sum + ks.length := s2
              refine ⟨some (.int (1 + (i : Int))), some (.int l), s7, some (.ref B2), s9, some (.ref Nn), some (.ref Hh), some (.ref R), Lx, l0 - (vn.length : Int), l1 - (vs.length : Int), us.take k.toNat ++ [.ref R] ++ us.drop k.toNat, ps.take k.toNat ++ [⟨x', 1 + (i : Int), l, kn, ks⟩] ++ ps.drop k.toNat, rfl, ?_, ?_, ?_, nLxD, by omega, by omega, by omega, by omega, ?_, ?_, upd_same, ?_, ?_, ?_⟩
              · exact (kG.trans (k12.trans kfin)).upd fP
              · exact (d14.other zP.1 zP.2).mono (by omega)
              · rw [upd_ne (fun e => by rw [e, ePz] at nLx; cases nLx)]
                exact kk3 Lx _ (kLx Lx _ eLx (not1 nLxD)) (not1 nLxD)
              · rw [List.length_append, List.length_append, List.length_take, List.length_drop, List.length_singleton]; omega
              · rw [List.length_append, List.length_append, List.length_take, List.length_drop, List.length_singleton]; omega
              · rw [List.map_append, List.map_append, List.map_take, List.map_drop]
                have du3 : Dts (Pp :: av) Y3 us (ps.map Pi.dat) := duz.keep (kfin.mono (one_in mP))
                exact (((du3.take _).app (.cons (dR.keep (kk3.mono (one_in mP))) .nil)).app (du3.drop _)).keep (Keep.put List.mem_cons_self)
              · intro z mz
                rcases ins_mem.mp mz with rfl | mz
                · exact okq
                · exact okp z mz
              · intro r r1 r2
                by_cases e : r = 1 + (i : Int)
                · exact ⟨_, ins_mem.mpr (.inl rfl), e.symm, x0', by rw [e]; exact x1'⟩
                · obtain ⟨z, mz, h1, h2, h3⟩ := cov r r1 (by omega)
                  exact ⟨z, ins_mem.mpr (.inr mz), h1, h2, h3⟩
    · obtain ⟨s5, s6, s7, s8, s9, s10, s11, s12, L, l0, l1, us, ps, rfl, kG, dG, eL, nLD, l00, l10, sn, sf, lu, lp, eP, du, okp, cov⟩ := z
      have tG : Tr av G := tr.kp kG dG.tr
      have du0 : Dts av G us (ps.map Pi.dat) := du.less fun a m => List.mem_cons_of_mem _ m
      refine ⟨.int n, rfl, .ref Pp, rfl, Pp, us, rfl, .inl ⟨SqL.of eP, fun T nT => ?_⟩⟩
      refine ⟨show 2 ≤ sizeLine by decide, fun R nR => ?_⟩
      have dT : Dt av (upd G T (.tup us)) (.ref T) (.tuple (ps.map Pi.dat)) := .tup (tG.not nT) upd_same (du0.keep (Keep.new nT))
      refine q _ R n ps (kG.trans ((Keep.new nT).trans (Keep.new nR))) (((dG.new nT).new nR).mono (by omega)) (.tup (tG.upd.not nR) upd_same (.cons (.int _) (.cons (dT.keep (Keep.new nR)) .nil))) ⟨by omega, hn2, by omega, okp, con_of fun r r1 r2 => cov r r1 (by omega), by omega, by omega⟩
end
end Rw

namespace Rw
open PySem PySem.Spec PyProof.Rows L2 TL
def hD (h : Int × List Pi) : PyData := houseD h.1 (h.2.map Pi.dat)
theorem sw_neg : Sw 0 16 (.int (-1)) := ⟨by simp only [PyData.canLay0], by simp only [PyData.showable]; decide, by simp only [PyData.depth]; omega, by decide +kernel⟩
theorem sw_prs {ks : List (Int × Int)} (hl : ks.length ≤ 3) (h : ∀ k ∈ ks, Sw 0 16 (.int k.1) ∧ Sw 0 16 (.int k.2)) : Sw 2 126 (.tuple (ks.map prD)) := by
  refine Sw.tup (k := 1) (n := 39) (m := 3) (fun d m => ?_) (by rw [List.length_map]; exact hl)
  obtain ⟨k, mk, rfl⟩ := List.mem_map.mp m
  refine Sw.tup (k := 0) (n := 16) (m := 2) (fun d m => ?_) (Nat.le_refl 2)
  rcases List.mem_cons.mp m with rfl | m
  · exact (h k mk).1
  · rw [List.mem_singleton.mp m]; exact (h k mk).2
theorem sw_pipe {n : Int} {p : Pi} (ok : p.ok n) (n16 : n ≤ 16) : Sw 3 643 p.dat := by
  have a1 := ok.x0
  have a2 := ok.x1
  have a3 := ok.y0
  have a4 := ok.y1
  have a5 := ok.fit.l1
  have a6 := ok.fit.l2
  refine Sw.tup (k := 2) (n := 126) (m := 5) (fun d m => ?_) (Nat.le_refl 5)
  rcases List.mem_cons.mp m with rfl | m
  · exact (Sw.int a1 (by omega)).mono (by omega) (by omega)
  rcases List.mem_cons.mp m with rfl | m
  · exact (Sw.int a3 (by omega)).mono (by omega) (by omega)
  rcases List.mem_cons.mp m with rfl | m
  · exact (Sw.int (by omega) (by omega)).mono (by omega) (by omega)
  rcases List.mem_cons.mp m with rfl | m
  · refine sw_prs ok.fit.nle fun k mk => ?_
    have h := fit_na ok k mk
    exact ⟨Sw.int h.1 h.2.1, Sw.int h.2.2.1 h.2.2.2⟩
  · rw [List.mem_singleton.mp m]
    refine sw_prs ok.fit.fle fun k mk => ?_
    have h := fit_fl ok k mk
    refine ⟨Sw.int h.1 h.2.1, ?_⟩
    rcases h.2.2 with e | e
    · rw [e]; exact Sw.int (by decide) (by decide)
    · rw [e]; exact sw_neg
theorem sw_house {n : Int} {ps : List Pi} (ok : okH n ps) : Sw 5 19363 (houseD n (ps.map Pi.dat)) := by
  have n1 := ok.n1
  have n16 := ok.n16
  have ln := ok.len
  refine Sw.tup (k := 4) (n := 9678) (m := 2) (fun d m => ?_) (Nat.le_refl 2)
  rcases List.mem_cons.mp m with rfl | m
  · exact (Sw.int (by omega) (by omega)).mono (by omega) (by omega)
  · rw [List.mem_singleton.mp m]
    refine Sw.tup (k := 3) (n := 643) (m := 15) (fun d m => ?_) (by rw [List.length_map]; omega)
    obtain ⟨p, mp, rfl⟩ := List.mem_map.mp m
    exact sw_pipe (ok.ok p mp) n16
theorem ir_prs {m : Nat} {ks : List (Int × Int)} (hl : ks.length ≤ 3) (h : ∀ k ∈ ks, k.1.natAbs.log2 < 1920 ∧ k.2.natAbs.log2 < 1920) : IR (m + 2) (.tuple (ks.map prD)) := by
  refine .tup (by rw [List.length_map]; omega) fun d md => ?_
  obtain ⟨k, mk, rfl⟩ := List.mem_map.mp md
  refine .tup (show 2 ≤ 1000 by decide) fun d m => ?_
  rcases List.mem_cons.mp m with rfl | m
  · exact .int _ (h k mk).1
  · rw [List.mem_singleton.mp m]; exact .int _ (h k mk).2
theorem ir_house {n : Int} {ps : List Pi} (ok : okH n ps) : IR 5 (houseD n (ps.map Pi.dat)) := by
  have n1 := ok.n1
  have n16 := ok.n16
  have ln := ok.len
  refine .tup (show 2 ≤ 1000 by decide) fun d m => ?_
  rcases List.mem_cons.mp m with rfl | m
  · exact .int _ (tx_log (by omega) (by omega))
  · rw [List.mem_singleton.mp m]
    refine .tup (by rw [List.length_map]; omega) fun d m => ?_
    obtain ⟨p, mp, rfl⟩ := List.mem_map.mp m
    have okp := ok.ok p mp
    have a1 := okp.x0
    have a2 := okp.x1
    have a3 := okp.y0
    have a4 := okp.y1
    have a5 := okp.fit.l1
    have a6 := okp.fit.l2
    refine .tup (show 5 ≤ 1000 by decide) fun d m => ?_
    rcases List.mem_cons.mp m with rfl | m
    · exact .int _ (tx_log a1 (by omega))
    rcases List.mem_cons.mp m with rfl | m
    · exact .int _ (tx_log a3 (by omega))
    rcases List.mem_cons.mp m with rfl | m
    · exact .int _ (tx_log (by omega) (by omega))
    rcases List.mem_cons.mp m with rfl | m
    · refine ir_prs (m := 0) okp.fit.nle fun k mk => ?_
      have h := fit_na okp k mk
      exact ⟨tx_log h.1 (Int.le_of_lt h.2.1), tx_log h.2.2.1 (Int.le_of_lt h.2.2.2)⟩
    · rw [List.mem_singleton.mp m]
      refine ir_prs (m := 0) okp.fit.fle fun k mk => ?_
      have h := fit_fl okp k mk
      refine ⟨tx_log h.1 (Int.le_of_lt h.2.1), ?_⟩
      rcases h.2.2 with e | e
      · rw [e]; decide
      · rw [e]; decide
theorem repr_fits2 {x : Str} (h : small x) (hl : x.length ≤ 10000) : (reprText x).length ≤ sizeLine :=
  Nat.le_trans (StrLaws.reprText_len x fun c m => Nat.lt_of_lt_of_le (h c m) (by decide)) (Nat.le_trans (by omega : _ ≤ 200000) (show 200000 ≤ sizeLine by decide))
theorem ok_one1 : okH 1 [] := ⟨by decide, by decide, rfl, fun _ m => absurd m List.not_mem_nil, fun S _ a h => by rw [show a = 0 by have : a < 1 := h; omega], by decide, by decide⟩
def LS (a D S : Addr) (t : Str) (σ : L2.St) : Prop := ∃ s2 s5 s6 s7 : Option V, σ = [some (.ref a), some (.ref D), s2, some (.ref S), some (.str t), s5, s6, s7]
section
variable {P : Program} {w : World} {K : PySem.W.Frag} {mg : Str → Option Value} {base : Heap}
abbrev sLaw : Stmt := topS 44
abbrev nLaw : List Str := ["_law_script", "_law_stream_here", "_law_k", "_law_some", "_law_kept", "_law_turn", "_law_house", "_law_text"]
theorem scLaw : FnScope nLaw ["_law_script"] (defScope sLaw) := ⟨rfl, rfl, rfl, by decide +kernel, rfl, by decide +kernel, by decide +kernel⟩
def spLaw (K : PySem.W.Frag) : Sp := fun vs H Q _ => ∃ (a : Addr) (ns : List Int), vs = [.ref a] ∧ SqL K H a (ns.map V.int) ∧ ns.length ≤ 63 ∧ ∀ H', Q (.bl true) H'
theorem ok_law {f : Addr} {fd : FuncData} (F : Fun K "law" "law" sLaw f fd) (B : Blt mg) (CS : Can P w K mg base "_law_stream" ["_law_script", "_law_own"] 1 (spStm K)) (CF : Can P w K mg base "_law_far_house" ["_law_stream_here", "_law_flaps"] 3 spFH) (CW : Can P w K mg base "_law_wide" ["_law_stream_here", "_law_house"] 3 spLW) (C1 : Can P w K mg base "_law_house_text" ["_law_house"] 1 spLHT) (C3 : Can P w K mg base "_law_same" ["_law_found", "_law_due"] 6 (spSame 5)) (D1 : Can P w K mg base "house_text" ["house"] 3 spHT) (D2 : Can P w K mg base "read_house" ["thing"] 7 spRH) :
    (∀ (s : Shared) (u : Value), BindsTo s fd ⟨[u], []⟩ [("_law_script", u)]) ∧ AtTop P w K mg base f fd "_law_script" (spLaw K) := by
  refine ⟨?_, atTop_of (k := 9) F scLaw ⟨rfl, by decide, by decide⟩ fun cdv s H v Q hr h => ?_⟩
  · obtain ⟨oc, od, kV, doc, pm, an, cdv, ct, osl, rfl, _, _⟩ := F.ex
    exact fun s u => .of_eq rfl
  · obtain ⟨a, ns, e, hS, hl, q⟩ := h
    cases e
    refine ⟨_, PSs.nox (pss_cons (ps_set (i := 1) scLaw.nd rfl (by first | exact Or.inl rfl | exact Or.inr rfl) (pe_can CS (hr.mono (by decide)) (by rfl) (pa_cons (pv 0) (pa_cons pe_int pa_nil))))
      (pss_cons (ps_set (i := 3) scLaw.nd rfl (by first | exact Or.inl rfl | exact Or.inr rfl) (pe_op op_cat (pe_lc (own := [("_law_k", 2)]) (g := gName 2) (tt := tYes) rfl scLaw.nd (pi_range1 (by rfl) B.range_ (pa_cons pe_int pa_nil)) (blkOk_by (N := nLaw) (sc := defScope sLaw) (by decide +kernel)) (fun _ _ _ _ _ => (pg_name (i := 2) scLaw.nd rfl (by first | exact Or.inl rfl | exact Or.inr rfl))) (fun _ _ _ _ _ => pts_nil) (fun _ _ _ _ _ => (pe_can CW (hr.mono (by decide)) (by rfl) (pa_cons (pv 1) (pa_cons (pe_can CF (hr.mono (by decide)) (by rfl) (pa_cons (pv 1) (pa_cons pe_int pa_nil))) pa_nil))))) (pe_lst (pa_cons (pe_tup (pa_cons pe_int (pa_cons (pe_tup pa_nil) pa_nil))) pa_nil))))
      (pss_cons (ps_set (i := 4) scLaw.nd rfl (by first | exact Or.inl rfl | exact Or.inr rfl) (pe_callB (cr_reprT rfl (units70 hr)) (by rfl) B.repr_ boot_repr (pa_cons (pv 3) pa_nil)))
      (pss_cons (ps_for PassesOwn.never rfl (pi_range1 (by rfl) B.range_ (pa_cons pe_int pa_nil)) (pg_name (i := 5) scLaw.nd rfl (by first | exact Or.inl rfl | exact Or.inr rfl))
      (pss_one (ps_for PassesOwn.never rfl (pi_list (pv 3)) (pg_name (i := 6) scLaw.nd rfl (by first | exact Or.inl rfl | exact Or.inr rfl))
      (pss_cons (ps_set (i := 7) scLaw.nd rfl (by first | exact Or.inl rfl | exact Or.inr rfl) (pe_can C1 (hr.mono (by decide)) (by rfl) (pa_cons (pv 6) pa_nil)))
      (pss_one (ps_if (PW.pt (pw_or (pt_not (pt_val (pe_can C3 (hr.mono (by decide)) (by rfl) (pa_cons (pe_can D1 (hr.mono (by decide)) (by rfl) (pa_cons (pv 6) pa_nil)) (pa_cons (pv 7) pa_nil))))) (pw_or1 (pt_not (pt_val (pe_can C3 (hr.mono (by decide)) (by rfl) (pa_cons (pe_can D2 (hr.mono (by decide)) (by rfl) (pa_cons (pv 7) pa_nil)) (pa_cons (pv 6) pa_nil)))))))) (pss_one (ps_ret pe_bl)) pss_nil))))))
      (pss_one (ps_ret (pe_cmpR op_eq (pe_callB (cr_reprT rfl (units70 hr)) (by rfl) B.repr_ boot_repr (pa_cons (pv 3) pa_nil)) (pv 4) (nomark _)))))))), ?_⟩
    refine ⟨.ref a, rfl, a, ns, 86, rfl, hS, by decide, fun H1 D C k1 nD nC d1 => ?_⟩
    refine ⟨4, rfl, by omega, by omega, fun W nW => ?_⟩
    have n1 := d1.nes nW
    refine lc_range (lo := 0) (n := (4 : Int).toNat) (fun i G => Keep [D] H1 G ∧ Dq G D C (86 + 600 * i) ∧ ∃ (vs : List V) (hs : List (Int × List Pi)), hs.length = i ∧ vs.length = i ∧ (∀ h ∈ hs, okH h.1 h.2) ∧ G W = some (.lst vs) ∧ Dts [W, D] G vs (hs.map hD))
      ⟨Keep.new nW, (d1.new nW).mono (by omega), [], [], rfl, rfl, fun _ z => absurd z List.not_mem_nil, upd_same, .nil⟩ (fun i G hi z => ?_) (fun G z => ?_)
    · have hi4 : i < 4 := hi
      obtain ⟨kG, dG, vs, hs, lh, lv, hp, eW, dv⟩ := z
      refine ⟨rfl, .ref D, rfl, .ref D, rfl, D, C, _, [W, D], rfl, dG, by omega, by omega, Tr.cons dG.tr eW, by simp, fun G1 r n ps kg dg dr okh => ?_⟩
      have eW1 := kg W _ eW (not1 n1.1)
      refine ⟨D, C, _, [W, D], .ref r, n, ps, rfl, dg, by omega, by omega, Tr.cons dg.tr eW1, by simp, dr, okh, fun G2 r2 qs kg2 dg2 dr2 ok2 => ?_⟩
      have kq := kg.trans kg2
      refine ⟨vs, kq W _ eW (not1 n1.1), by rw [lv]; exact small1000 (by omega), (kG.trans kq).upd nW, (dg2.other n1.1 n1.2).mono (by omega), vs ++ [.ref r2], hs ++ [(n, qs)], by rw [List.length_append, lh]; rfl, by rw [List.length_append, lv]; rfl, ?_, upd_same, ?_⟩
      · intro x m
        rcases List.mem_append.mp m with m | m
        · exact hp x m
        · rw [List.mem_singleton.mp m]; exact ok2
      · rw [List.map_append]
        exact lst_step dv (kq.mono fun a m => List.mem_cons_of_mem _ m) dr2
    obtain ⟨kG, dG, vs, hs, lh, lv, hp, eW, dv⟩ := z
    have lh4 : hs.length = 4 := lh
    have lv4 : vs.length = 4 := lv
    have dv0 : Dts [] G vs (hs.map hD) := dv.less fun _ m => nomatch m
    refine ⟨show 0 ≤ sizeLine by decide, fun E0 nE => ?_⟩
    refine ⟨show 2 ≤ sizeLine by decide, fun T nT => ?_⟩
    refine ⟨show 1 ≤ sizeLine by decide, fun U nU => ?_⟩
    have kE : Keep [] G (upd G E0 (.tup [])) := Keep.new nE
    have kT : Keep [] (upd G E0 (.tup [])) (upd (upd G E0 (.tup [])) T (.tup [.int 1, .ref E0])) := Keep.new nT
    have kU : Keep [] (upd (upd G E0 (.tup [])) T (.tup [.int 1, .ref E0])) (upd (upd (upd G E0 (.tup [])) T (.tup [.int 1, .ref E0])) U (.lst [.ref T])) := Keep.new nU
    have dE : Dt [] (upd G E0 (.tup [])) (.ref E0) (.tuple []) := .tup List.not_mem_nil upd_same .nil
    have dT : Dt [] (upd (upd G E0 (.tup [])) T (.tup [.int 1, .ref E0])) (.ref T) (hD (1, [])) := .tup List.not_mem_nil upd_same (.cons (.int _) (.cons (dE.keep kT) .nil))
    have k3 := kE.trans (kT.trans kU)
    refine ⟨W, U, vs, [.ref T], rfl, rfl, k3 W _ eW List.not_mem_nil, upd_same, by rw [lv4]; exact (show 4 + 1 ≤ sizeLine by decide), fun S nS => ?_⟩
    have eS : (upd (upd (upd (upd G E0 (.tup [])) T (.tup [.int 1, .ref E0])) U (.lst [.ref T])) S (.lst (vs ++ [.ref T]))) S = some (.lst (vs ++ [.ref T])) := upd_same
    have dS : Dts [] (upd (upd (upd (upd G E0 (.tup [])) T (.tup [.int 1, .ref E0])) U (.lst [.ref T])) S (.lst (vs ++ [.ref T]))) (vs ++ [.ref T]) ((hs ++ [(1, [])]).map hD) := by
      rw [List.map_append]
      exact (dv0.keep (k3.trans (Keep.new nS))).app (.cons (dT.keep (kU.trans (Keep.new nS))) .nil)
    generalize upd (upd (upd (upd G E0 (.tup [])) T (.tup [.int 1, .ref E0])) U (.lst [.ref T])) S (.lst (vs ++ [.ref T])) = J at eS dS ⊢
    have hp' : ∀ h ∈ hs ++ [(1, [])], okH h.1 h.2 := fun h m => by
      rcases List.mem_append.mp m with m | m
      · exact hp h m
      · rw [List.mem_singleton.mp m]; exact ok_one1
    have lw : (hs ++ [((1 : Int), ([] : List Pi))]).length = 5 := by rw [List.length_append, lh4]; rfl
    clear kE kT kU dE dT k3 dv dv0 eW kG dG d1 k1 hp lh lv lh4 lv4
    generalize hs ++ [((1 : Int), ([] : List Pi))] = gs at dS hp' lw
    generalize vs ++ [V.ref T] = ws at eS dS
    have dL : Dt [] J (.ref S) (.list (gs.map hD)) := .lst List.not_mem_nil eS dS
    have swB : Sw 60 96828 (.list (gs.map hD)) := by
      refine (Sw.lst (ds := gs.map hD) (k := 5) (n := 19363) (m := 5) (fun d m => ?_) (by rw [List.length_map]; omega)).mono (by omega) (by omega)
      obtain ⟨x, mx, rfl⟩ := List.mem_map.mp m
      exact sw_house (hp' x mx)
    refine ⟨.ref S, rfl, S, _, 96828, rfl, dL, swB, by decide, ?_⟩
    generalize hT : PyData.shown (.list (gs.map hD)) = X
    refine ⟨2, rfl, by omega, by omega, for_range (lo := 0) (n := (2 : Int).toNat) (fun i σ M => Keep [] J M ∧ LS a D S X σ) ⟨Keep.refl _ _, _, _, _, _, rfl⟩ (fun i σ M hi z => ?_) (fun σ M z => ?_)⟩
    · obtain ⟨kM, s2, s5, s6, s7, rfl⟩ := z
      refine ⟨.ref S, rfl, S, rfl, ⟨_, SqL.of (kM S _ eS List.not_mem_nil)⟩, for_list (K := K) (a := S) (xs := ws) (fun i σ M => Keep [] J M ∧ LS a D S X σ) ⟨kM, _, _, _, _, rfl⟩ (fun j σ M _ z => SqL.of (z.1 S _ eS List.not_mem_nil)) (fun j x σ M hx z => ?_) (fun σ M z => ?_)⟩
      · obtain ⟨kM, s2, s5, s6, s7, rfl⟩ := z
        obtain ⟨d, gd, dx⟩ := dS.getv j hx
        rw [List.getElem?_map] at gd
        obtain ⟨⟨n, ps⟩, gr, rfl⟩ := Option.map_eq_some_iff.mp gd
        have ok : okH n ps := hp' _ (List.mem_of_getElem? gr)
        have dx0 : Dt [] J x (houseD n (ps.map Pi.dat)) := dx
        have ln := (htx_len ok).2
        refine ⟨x, rfl, x, n, ps, rfl, dx0.keep kM, ok, fun M0 k0 => ?_⟩
        have q0 := kM.trans k0
        refine ⟨x, rfl, x, n, ps, rfl, dx0.keep q0, ok, fun M1 k1 => ?_⟩
        have q1 := q0.trans k1
        refine ⟨.str _, rfl, .str _, .str _, .str _, rfl, .str _, .str _, .str 5 (repr_fits2 (small_htx ok) ln), fun M2 k2 => ⟨_, rfl, iteF ?_⟩⟩
        have q2 := q1.trans k2
        refine ⟨.str _, rfl, n, ps, rfl, ok, fun M3 r k3 dr => ?_⟩
        have q3 := q2.trans k3
        refine ⟨x, rfl, .ref r, x, houseD n (ps.map Pi.dat), rfl, dr, dx0.keep q3, ir_house ok, fun M4 k4 => ⟨_, rfl, iteF ?_⟩⟩
        exact ⟨q3.trans k4, _, _, _, _, rfl⟩
      · exact z
    · obtain ⟨kM, s2, s5, s6, s7, rfl⟩ := z
      refine ⟨.ref S, rfl, S, _, 96828, rfl, dL.keep kM, swB, by decide, .str X, rfl, rfl, ?_⟩
      rw [hT, decide_eq_true (rfl : V.str X = V.str X)]
      exact q _
end
end Rw

namespace Rw
open PySem PySem.Spec PyProof.Rows L2
theorem has_mk {K : PySem.W.Frag} {h : Heap} {mg : Str → Option Value} {x : Str} {st : Stmt} {f : Addr} (X : K.In h) (G : h.Ns mainGlobals mg) {od an : Option Addr} {sl : Array (Option Value)} {oc kV dc pm cd ct : Value}
    (a : PySem.W.nsIn K mainGlobals x = some (some (.ref f))) (l : K.lookup f = some ⟨oc, od, .func (PySem.W.fnOf x x (defArgs st) (defBody st) (defScope st) .none kV dc pm an cd ct), sl⟩) (c : PySem.W.codeIn K cd x = true) (k : PySem.W.keepIn K (.ref f) = true) : Has K mg x st :=
  ⟨f, _, fun_mk (st := st) l c k, PySem.W.mg_of X G a⟩
theorem cst_mk {K : PySem.W.Frag} {h : Heap} {mg : Str → Option Value} {x : Str} {i : Int} {t : Tok} (X : K.In h) (G : h.Ns mainGlobals mg) (a : PySem.W.nsIn K mainGlobals x = some (some (.int i t))) : ∃ t, mg x = some (.int i t) := ⟨t, PySem.W.mg_of X G a⟩
theorem cst_mkS {K : PySem.W.Frag} {h : Heap} {mg : Str → Option Value} {x : Str} {i : Str} {t : Tok} (X : K.In h) (G : h.Ns mainGlobals mg) (a : PySem.W.nsIn K mainGlobals x = some (some (.str i t))) : ∃ t, mg x = some (.str i t) := ⟨t, PySem.W.mg_of X G a⟩
theorem end_all {P : Program} {w : World} {K : PySem.W.Frag} {mg : Str → Option Value} {fa : Addr} (B : Blt mg) (hfa : mg "law" = some (.ref fa)) (hL : Has K mg "law" sLaw)
    (c_MOST : ∃ t, mg "MOST" = some (.int 15 t))
    (c_ROOMS : ∃ t, mg "ROOMS" = some (.int 16 t))
    (c_LONG : ∃ t, mg "LONG" = some (.int 1000000000000 t))
    (c_WIDE : ∃ t, mg "WIDE" = some (.int 1000000 t))
    (c_NARROWS : ∃ t, mg "NARROWS" = some (.int 12 t))
    (c_FLAPS : ∃ t, mg "FLAPS" = some (.int 6 t))
    (t_FIGURES : ∃ t, mg "FIGURES" = some (.str figT t))
    (t_FORTH : ∃ t, mg "FORTH" = some (.str forthT t))
    (t_BACK : ∃ t, mg "BACK" = some (.str backT t))
    (h1 : Has K mg "is_whole" sWhole)
    (h2 : Has K mg "is_within" sWithin)
    (h3 : Has K mg "is_tuple_of" sTupOf)
    (h4 : Has K mg "are_rising_pairs" sRPs)
    (h5 : Has K mg "is_house" sIH)
    (h6 : Has K mg "is_pipe" sIP)
    (h7 : Has K mg "are_narrows" sAN)
    (h8 : Has K mg "are_flaps" sAF)
    (h9 : Has K mg "is_flap_way" sFW)
    (h10 : Has K mg "joins_all" sJA)
    (h11 : Has K mg "holds_few" sHF)
    (h12 : Has K mg "number_of" sNum)
    (h13 : Has K mg "pair_texts" sPT)
    (h14 : Has K mg "house_text" sHT)
    (h15 : Has K mg "pipe_text" sPiT)
    (h16 : Has K mg "pair_of" sPO)
    (h17 : Has K mg "read_house" sRH)
    (h18 : Has K mg "pipe_of" sPiO)
    (h19 : Has K mg "flap_of" sFO)
    (h20 : Has K mg "_law_stream" sStm)
    (h21 : Has K mg "_law_take" sTk)
    (h22 : Has K mg "_law_same" sSame)
    (h23 : Has K mg "_law_far" sFar)
    (h24 : Has K mg "_law_far_house" sFH)
    (h25 : Has K mg "_law_house_text" sLHT)
    (h26 : Has K mg "_law_wide" sLW)
    : ∃ fd : FuncData, (∀ (s : Shared) (u : Value), BindsTo s fd ⟨[u], []⟩ [("_law_script", u)]) ∧ ∀ base : Heap, K.In base → base.Ns mainGlobals mg → AtTop P w K mg base fa fd "_law_script" (spLaw K) := by
  obtain ⟨f, fd, F, g⟩ := hL
  have e := hfa.symm.trans g
  cases e
  have all : ∀ base : Heap, (∀ (s : Shared) (u : Value), BindsTo s fd ⟨[u], []⟩ [("_law_script", u)]) ∧ AtTop P w K mg base fa fd "_law_script" (spLaw K) := fun base => by
    have cWh : Can P w K mg base _ _ _ _ := ok_whole h1 B
    have cWi := ok_within h2 cWh
    have cTO : Can P w K mg base _ _ _ _ := ok_tupOf h3 B
    have cFW := ok_fW h9 cWh
    have cRPs := ok_rPs h4 B cTO cWi
    have cAN := ok_aN h7 B c_WIDE cRPs cWi
    have cAF := ok_aF h8 B cRPs cFW
    have cIP := ok_iP h6 c_LONG cTO cWi cAN cAF
    have cJA : Can P w K mg base _ _ _ _ := ok_jA h10 B
    have cHF : Can P w K mg base _ _ _ _ := ok_hF h11 B c_NARROWS c_FLAPS
    have cIH := ok_iH h5 c_ROOMS cTO cWi cIP cJA cHF
    have cNum : Can P w K mg base _ _ _ _ := ok_num h12 B t_FIGURES
    have cPT : Can P w K mg base _ _ _ _ := ok_pT h13 B
    have cPO := ok_pO h16 B c_MOST cNum
    have cPiT := ok_piT h15 B t_FORTH t_BACK cPT
    have cHT := ok_hT h14 B cPiT
    have cFO := ok_fO h19 B c_MOST t_FORTH t_BACK cNum
    have cPiO := ok_piO h18 B c_MOST cNum cPO cFO
    have cRH := ok_rH h17 B c_MOST cNum cPiO cIH cHT
    have cStm : Can P w K mg base _ _ _ _ := ok_stm h20 B
    have cTk : Can P w K mg base _ _ _ _ := ok_tk h21 B
    have cFar := ok_far h23 B cTk
    have cFH := ok_fH h24 B cTk cFar
    have cLW := ok_lW h26 B cFar
    have cLHT : Can P w K mg base _ _ _ _ := ok_lHT h25 B
    have cSame : Can P w K mg base _ _ _ _ := ok_same h22 B 5
    exact ok_law F B cStm cFH cLW cLHT cSame cHT cRH
  exact ⟨fd, (all Inhabited.default).1, fun base _ _ => (all base).2⟩
end Rw
open PySem PySem.W PyProof.Rows
set_option maxHeartbeats 0 in
theorem PySem.Challenge.cw_ropewarren_k86_house_texts_holds : PySem.Challenge.rw_ropewarren_k86_house_texts.Holds := by
  w_on; o_law; k_head; (case hw => w_witness2)
  k_fill
  refine Rw.walk_top (l := PySem.Challenge.rw_ropewarren_k86_house_texts) (n := 63) (x := "_law_script") (sp := fun w => Rw.spLaw _) rfl (by decide) rfl (fun w h Y => PySem.W.kIn_of Y) ?F (fun _ _ a ns hl _ hS => ⟨a, ns, rfl, hS, hl, fun _ => rfl⟩)
  case F =>
    intro w mg fa h KX G hmg0
    have hmg : mg "law" = some (.ref fa) := hmg0
    clear hmg0
    refine' Rw.end_all (mg := mg) ?B hmg ?hL  ?c_MOST ?c_ROOMS ?c_LONG ?c_WIDE ?c_NARROWS ?c_FLAPS ?t_FIGURES ?t_FORTH ?t_BACK ?h1 ?h2 ?h3 ?h4 ?h5 ?h6 ?h7 ?h8 ?h9 ?h10 ?h11 ?h12 ?h13 ?h14 ?h15 ?h16 ?h17 ?h18 ?h19 ?h20 ?h21 ?h22 ?h23 ?h24 ?h25 ?h26
    case B =>
      refine' ⟨PySem.W.mg_none_of KX G ?b1, PySem.W.mg_none_of KX G ?b2, PySem.W.mg_none_of KX G ?b3, PySem.W.mg_none_of KX G ?b4, PySem.W.mg_none_of KX G ?b5, PySem.W.mg_none_of KX G ?b6, PySem.W.mg_none_of KX G ?b7, PySem.W.mg_none_of KX G ?b8, PySem.W.mg_none_of KX G ?b9, PySem.W.mg_none_of KX G ?b10, PySem.W.mg_none_of KX G ?b11, PySem.W.mg_none_of KX G ?b12, PySem.W.mg_none_of KX G ?b13, PySem.W.mg_none_of KX G ?b14, PySem.W.mg_none_of KX G ?b15, PySem.W.mg_none_of KX G ?b16, PySem.W.mg_none_of KX G ?b17, PySem.W.mg_none_of KX G ?b18, PySem.W.mg_none_of KX G ?b19⟩
      (case b1 => k_is)
      (case b2 => k_is)
      (case b3 => k_is)
      (case b4 => k_is)
      (case b5 => k_is)
      (case b6 => k_is)
      (case b7 => k_is)
      (case b8 => k_is)
      (case b9 => k_is)
      (case b10 => k_is)
      (case b11 => k_is)
      (case b12 => k_is)
      (case b13 => k_is)
      (case b14 => k_is)
      (case b15 => k_is)
      (case b16 => k_is)
      (case b17 => k_is)
      (case b18 => k_is)
      (case b19 => k_is)
    case c_MOST =>
      refine' Rw.cst_mk KX G ?a
      (case a => k_is)
    case c_ROOMS =>
      refine' Rw.cst_mk KX G ?a
      (case a => k_is)
    case c_LONG =>
      refine' Rw.cst_mk KX G ?a
      (case a => k_is)
    case c_WIDE =>
      refine' Rw.cst_mk KX G ?a
      (case a => k_is)
    case c_NARROWS =>
      refine' Rw.cst_mk KX G ?a
      (case a => k_is)
    case c_FLAPS =>
      refine' Rw.cst_mk KX G ?a
      (case a => k_is)
    case t_FIGURES =>
      refine' Rw.cst_mkS KX G ?a
      (case a => k_is)
    case t_FORTH =>
      refine' Rw.cst_mkS KX G ?a
      (case a => k_is)
    case t_BACK =>
      refine' Rw.cst_mkS KX G ?a
      (case a => k_is)
    case hL =>
      refine' Rw.has_mk KX G ?a ?l ?c ?k
      (case a => k_is); (case l => k_is); (case c => k_is); (case k => k_is)
    case h1 =>
      refine' Rw.has_mk KX G ?a ?l ?c ?k
      (case a => k_is); (case l => k_is); (case c => k_is); (case k => k_is)
    case h2 =>
      refine' Rw.has_mk KX G ?a ?l ?c ?k
      (case a => k_is); (case l => k_is); (case c => k_is); (case k => k_is)
    case h3 =>
      refine' Rw.has_mk KX G ?a ?l ?c ?k
      (case a => k_is); (case l => k_is); (case c => k_is); (case k => k_is)
    case h4 =>
      refine' Rw.has_mk KX G ?a ?l ?c ?k
      (case a => k_is); (case l => k_is); (case c => k_is); (case k => k_is)
    case h5 =>
      refine' Rw.has_mk KX G ?a ?l ?c ?k
      (case a => k_is); (case l => k_is); (case c => k_is); (case k => k_is)
    case h6 =>
      refine' Rw.has_mk KX G ?a ?l ?c ?k
      (case a => k_is); (case l => k_is); (case c => k_is); (case k => k_is)
    case h7 =>
      refine' Rw.has_mk KX G ?a ?l ?c ?k
      (case a => k_is); (case l => k_is); (case c => k_is); (case k => k_is)
    case h8 =>
      refine' Rw.has_mk KX G ?a ?l ?c ?k
      (case a => k_is); (case l => k_is); (case c => k_is); (case k => k_is)
    case h9 =>
      refine' Rw.has_mk KX G ?a ?l ?c ?k
      (case a => k_is); (case l => k_is); (case c => k_is); (case k => k_is)
    case h10 =>
      refine' Rw.has_mk KX G ?a ?l ?c ?k
      (case a => k_is); (case l => k_is); (case c => k_is); (case k => k_is)
    case h11 =>
      refine' Rw.has_mk KX G ?a ?l ?c ?k
      (case a => k_is); (case l => k_is); (case c => k_is); (case k => k_is)
    case h12 =>
      refine' Rw.has_mk KX G ?a ?l ?c ?k
      (case a => k_is); (case l => k_is); (case c => k_is); (case k => k_is)
    case h13 =>
      refine' Rw.has_mk KX G ?a ?l ?c ?k
      (case a => k_is); (case l => k_is); (case c => k_is); (case k => k_is)
    case h14 =>
      refine' Rw.has_mk KX G ?a ?l ?c ?k
      (case a => k_is); (case l => k_is); (case c => k_is); (case k => k_is)
    case h15 =>
      refine' Rw.has_mk KX G ?a ?l ?c ?k
      (case a => k_is); (case l => k_is); (case c => k_is); (case k => k_is)
    case h16 =>
      refine' Rw.has_mk KX G ?a ?l ?c ?k
      (case a => k_is); (case l => k_is); (case c => k_is); (case k => k_is)
    case h17 =>
      refine' Rw.has_mk KX G ?a ?l ?c ?k
      (case a => k_is); (case l => k_is); (case c => k_is); (case k => k_is)
    case h18 =>
      refine' Rw.has_mk KX G ?a ?l ?c ?k
      (case a => k_is); (case l => k_is); (case c => k_is); (case k => k_is)
    case h19 =>
      refine' Rw.has_mk KX G ?a ?l ?c ?k
      (case a => k_is); (case l => k_is); (case c => k_is); (case k => k_is)
    case h20 =>
      refine' Rw.has_mk KX G ?a ?l ?c ?k
      (case a => k_is); (case l => k_is); (case c => k_is); (case k => k_is)
    case h21 =>
      refine' Rw.has_mk KX G ?a ?l ?c ?k
      (case a => k_is); (case l => k_is); (case c => k_is); (case k => k_is)
    case h22 =>
      refine' Rw.has_mk KX G ?a ?l ?c ?k
      (case a => k_is); (case l => k_is); (case c => k_is); (case k => k_is)
    case h23 =>
      refine' Rw.has_mk KX G ?a ?l ?c ?k
      (case a => k_is); (case l => k_is); (case c => k_is); (case k => k_is)
    case h24 =>
      refine' Rw.has_mk KX G ?a ?l ?c ?k
      (case a => k_is); (case l => k_is); (case c => k_is); (case k => k_is)
    case h25 =>
      refine' Rw.has_mk KX G ?a ?l ?c ?k
      (case a => k_is); (case l => k_is); (case c => k_is); (case k => k_is)
    case h26 =>
      refine' Rw.has_mk KX G ?a ?l ?c ?k
      (case a => k_is); (case l => k_is); (case c => k_is); (case k => k_is)
