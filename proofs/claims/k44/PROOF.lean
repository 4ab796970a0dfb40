import PyProof.Rows.All
import Wide.All
import OpenK.AllK
import Wide.FinOn
import PyProof.ReprRoads
import HandS.ForMost
import HandS.Flow
import HandS.Wide
import HandS.IsInst
import HandS.Strs
import HandS.SetFor
import HandS.TupAny
import HandS.Rev
import HandS.NoneIn
import HandS.Style
import HandS.SortInts
import HandS.More
import KE.DataMinMax
import KE.GoesMore
import KE.DatumOrd
import KE.KDictDisplayH
import KE.SortData
import HandS.Conv
import HandS.Walk
import HandS.DictSub
import KE.KDictPairs
import KE.KDictSum
import PyProof.Transfer
import PySem.Challenge.RW_ropewarren_k44_long_arms
set_option Elab.async false
set_option linter.all false
set_option maxRecDepth 100000
set_option maxHeartbeats 4000000
namespace Rw
open PySem PySem.Spec PyProof.Rows L2
/-! heaps of which all but a few addresses stay -/
def Keep (av : List Addr) (H H' : Hp) : Prop := ∀ b o, H b = some o → b ∉ av → H' b = some o
theorem Keep.refl (av : List Addr) (H : Hp) : Keep av H H := fun _ _ e _ => e
theorem Keep.trans {av : List Addr} {H H1 H2 : Hp} (x : Keep av H H1) (y : Keep av H1 H2) : Keep av H H2 := fun b o e n => y b o (x b o e n) n
theorem Keep.new {av : List Addr} {H : Hp} {p : Addr} {o : HO} (n : H p = none) : Keep av H (upd H p o) := fun b z e _ => by
  rw [upd_ne (ne_of_none e n)]; exact e
theorem Keep.put {av : List Addr} {H : Hp} {p : Addr} {o : HO} (n : p ∈ av) : Keep av H (upd H p o) := fun b z e nb => by
  rw [upd_ne (show b ≠ p from fun q => nb (by rw [q]; exact n))]; exact e
theorem Keep.mono {av av' : List Addr} {H H' : Hp} (x : Keep av H H') (s : ∀ a ∈ av, a ∈ av') : Keep av' H H' := fun b o e n => x b o e fun q => n (s b q)
/-! a fresh address may be left out of what is left out -/
theorem Keep.drop {av : List Addr} {H H' : Hp} {p : Addr} (n : H p = none) (x : Keep (p :: av) H H') : Keep av H H' := fun b o e nb => x b o e fun q => by
  rcases List.mem_cons.mp q with q | q
  · exact ne_of_none e n q
  · exact nb q
/-! data: what stands at a value, without the addresses av -/
mutual
inductive Dt (av : List Addr) (H : Hp) : V → PyData → Prop
  | non : Dt av H .non .none
  | bl (b : Bool) : Dt av H (.bl b) (.bool b)
  | int (i : Int) : Dt av H (.int i) (.int i)
  | str (x : Str) : Dt av H (.str x) (.str x)
  | lst {a : Addr} {xs : List V} {ds : List PyData} : a ∉ av → H a = some (.lst xs) → Dts av H xs ds → Dt av H (.ref a) (.list ds)
  | tup {a : Addr} {xs : List V} {ds : List PyData} : a ∉ av → H a = some (.tup xs) → Dts av H xs ds → Dt av H (.ref a) (.tuple ds)
  | dct {a : Addr} : a ∉ av → H a = some (.dK []) → Dt av H (.ref a) (.dict [])
inductive Dts (av : List Addr) (H : Hp) : List V → List PyData → Prop
  | nil : Dts av H [] []
  | cons {v : V} {vs : List V} {d : PyData} {ds : List PyData} : Dt av H v d → Dts av H vs ds → Dts av H (v :: vs) (d :: ds)
end
mutual
theorem Dt.map {av av' : List Addr} {H H' : Hp} (f : ∀ b o, H b = some o → b ∉ av → H' b = some o ∧ b ∉ av') : ∀ (d : PyData) (v : V), Dt av H v d → Dt av' H' v d
  | _, _, .non => .non
  | _, _, .bl b => .bl b
  | _, _, .int i => .int i
  | _, _, .str x => .str x
  | .list ds, _, .lst n e s => .lst (f _ _ e n).2 (f _ _ e n).1 (Dts.map f ds _ s)
  | .tuple ds, _, .tup n e s => .tup (f _ _ e n).2 (f _ _ e n).1 (Dts.map f ds _ s)
  | _, _, .dct n e => .dct (f _ _ e n).2 (f _ _ e n).1
theorem Dts.map {av av' : List Addr} {H H' : Hp} (f : ∀ b o, H b = some o → b ∉ av → H' b = some o ∧ b ∉ av') : ∀ (ds : List PyData) (vs : List V), Dts av H vs ds → Dts av' H' vs ds
  | _, _, .nil => .nil
  | d :: ds, _, .cons h t => .cons (Dt.map f d _ h) (Dts.map f ds _ t)
end
theorem Dt.keep {av : List Addr} {H H' : Hp} {v : V} {d : PyData} (x : Dt av H v d) (k : Keep av H H') : Dt av H' v d := Dt.map (fun b o e n => ⟨k b o e n, n⟩) d v x
theorem Dts.keep {av : List Addr} {H H' : Hp} {v : List V} {d : List PyData} (x : Dts av H v d) (k : Keep av H H') : Dts av H' v d := Dts.map (fun b o e n => ⟨k b o e n, n⟩) d v x
theorem Dt.more {av : List Addr} {H : Hp} {v : V} {d : PyData} {p : Addr} (x : Dt av H v d) (n : H p = none) : Dt (p :: av) H v d :=
  Dt.map (fun b o e nb => ⟨e, fun q => (List.mem_cons.mp q).elim (ne_of_none e n) nb⟩) d v x
theorem Dts.more {av : List Addr} {H : Hp} {v : List V} {d : List PyData} {p : Addr} (x : Dts av H v d) (n : H p = none) : Dts (p :: av) H v d :=
  Dts.map (fun b o e nb => ⟨e, fun q => (List.mem_cons.mp q).elim (ne_of_none e n) nb⟩) d v x
theorem Dt.less {av av' : List Addr} {H : Hp} {v : V} {d : PyData} (x : Dt av H v d) (s : ∀ a ∈ av', a ∈ av) : Dt av' H v d :=
  Dt.map (fun b o e nb => ⟨e, fun q => nb (s b q)⟩) d v x
theorem Dts.less {av av' : List Addr} {H : Hp} {v : List V} {d : List PyData} (x : Dts av H v d) (s : ∀ a ∈ av', a ∈ av) : Dts av' H v d :=
  Dts.map (fun b o e nb => ⟨e, fun q => nb (s b q)⟩) d v x
theorem Dts.len {av : List Addr} {H : Hp} : ∀ {vs : List V} {ds : List PyData}, Dts av H vs ds → vs.length = ds.length
  | _, _, .nil => rfl
  | _, _, .cons _ t => by rw [List.length_cons, List.length_cons, t.len]
theorem Dts.get {av : List Addr} {H : Hp} : ∀ {vs : List V} {ds : List PyData} (i : Nat) {d : PyData}, Dts av H vs ds → ds[i]? = some d → ∃ v, vs[i]? = some v ∧ Dt av H v d
  | _, _, _, _, .nil, e => by simp at e
  | _, _, 0, _, .cons h _, e => by simp at e; subst e; exact ⟨_, rfl, h⟩
  | _, _, i + 1, d, .cons _ t, e => by
    obtain ⟨u, h1, h2⟩ := Dts.get (i := i) (d := d) t (by simpa using e)
    exact ⟨u, by simpa using h1, h2⟩
theorem Dts.getv {av : List Addr} {H : Hp} : ∀ {vs : List V} {ds : List PyData} (i : Nat) {v : V}, Dts av H vs ds → vs[i]? = some v → ∃ d, ds[i]? = some d ∧ Dt av H v d
  | _, _, _, _, .nil, e => by simp at e
  | _, _, 0, _, .cons h _, e => by simp at e; subst e; exact ⟨_, rfl, h⟩
  | _, _, i + 1, d, .cons _ t, e => by
    obtain ⟨u, h1, h2⟩ := Dts.getv (i := i) (v := d) t (by simpa using e)
    exact ⟨u, by simpa using h1, h2⟩
theorem Dts.app {av : List Addr} {H : Hp} : ∀ {vs us : List V} {ds es : List PyData}, Dts av H vs ds → Dts av H us es → Dts av H (vs ++ us) (ds ++ es)
  | _, _, _, _, .nil, y => y
  | _, _, _, _, .cons h t, y => .cons h (Dts.app t y)
theorem Dts.mem {av : List Addr} {H : Hp} : ∀ {vs : List V} {ds : List PyData} {v : V}, Dts av H vs ds → v ∈ vs → ∃ d ∈ ds, Dt av H v d
  | _, _, _, .nil, e => by simp at e
  | _, _, v, .cons (d := d) h t, e => by
    rcases List.mem_cons.mp e with e | e
    · subst e; exact ⟨d, List.mem_cons_self, h⟩
    · obtain ⟨d', m, x⟩ := Dts.mem t e
      exact ⟨d', List.mem_cons_of_mem _ m, x⟩
theorem Dts.take {av : List Addr} {H : Hp} : ∀ {vs : List V} {ds : List PyData} (n : Nat), Dts av H vs ds → Dts av H (vs.take n) (ds.take n)
  | _, _, 0, _ => .nil
  | _, _, _ + 1, .nil => .nil
  | _, _, n + 1, .cons r t => .cons r (Dts.take n t)
theorem Dts.drop {av : List Addr} {H : Hp} : ∀ {vs : List V} {ds : List PyData} (n : Nat), Dts av H vs ds → Dts av H (vs.drop n) (ds.drop n)
  | _, _, 0, r => r
  | _, _, _ + 1, .nil => .nil
  | _, _, n + 1, .cons _ t => Dts.drop n t
theorem Dts.rev {av : List Addr} {H : Hp} : ∀ {vs : List V} {ds : List PyData}, Dts av H vs ds → Dts av H vs.reverse ds.reverse
  | _, _, .nil => .nil
  | _, _, .cons r t => by rw [List.reverse_cons, List.reverse_cons]; exact Dts.app t.rev (.cons r .nil)
theorem Dts.ints {av : List Addr} {H : Hp} : ∀ ns : List Int, Dts av H (ns.map V.int) (ns.map PyData.int)
  | [] => .nil
  | n :: ns => .cons (.int n) (Dts.ints ns)
end Rw

namespace Rw
open PySem PySem.Spec PyProof.Rows L2
/-! ### the law's own def, called where nothing is being shown (callerA), over a base that is known -/
def AtTop (P : Program) (w : World) (K : PySem.W.Frag) (mg : Str → Option Value) (base : Heap) (f : Addr) (fd : FuncData) (x : Str) (sp : Sp) : Prop :=
  ∀ (s : Shared) (H : Hp) (u : Value) (v : V) (Q : VK), Env0 P w K mg base callerA [] s H → BindsTo s fd ⟨[u], []⟩ [(x, u)] → RelV v u → sp [v] H Q E0 →
    codeAny (model P w) callerA (.call (.ref f) ⟨[u], []⟩) (CR CX0 [] P w H s Q E0) s
section
variable {P : Program} {w : World} {K : PySem.W.Frag} {mg : Str → Option Value} {base : Heap}
theorem atTop_of {f : Addr} {x q y : Str} {st : Stmt} {fd : FuncData} {N : List Str} {k : Nat} {sp : Sp} (F : Fun K x q st f fd) (S : FnScope N [y] (defScope st)) (room : Room (k + 1) callerA)
    (body : ∀ (cdv : Value) (s : Shared) (H : Hp) (v : V) (Q : VK), Room k (callerA.deeper (envOfC q (defScope st) s.heap.objs.size f cdv)) → sp [v] H Q E0 →
      ∃ t, PSs (cxOf CX0 P w K mg base N q (defScope st) f cdv callerA [] s H E0) (defBody st) t ∧ t { nx := fun _ H' => Q .non H', rt := Q } (start N [v]) H) : AtTop P w K mg base f fd y sp := by
  obtain ⟨oc, od, kV, doc, pm, an, cdv, ct, osl, rfl, lk, hcd⟩ := F.ex
  intro s H u v Q e0 hb r hsp
  have KX : K.In s.heap := e0.mod.kin.keeps (fun b o e => (e0.bs b o e).1)
  have lim : s.heap.NoLimit := e0.mod.nolimit.keeps (fun b o e => (e0.bs b o e).1)
  have kinds : ∀ z ∈ [y].zip [u], (defScope st).names.lookup z.1 = some .local ∨ ((defScope st).names.lookup z.1 = some .cell ∧ ((cellsFrom (s.heap.objs.size + 1) (defScope st).names []).lookup z.1).isSome = true) := fun ⟨n, v⟩ hz => by
    rcases S.par n (List.of_mem_zip hz).1 with g | g
    · exact Or.inl g
    · exact Or.inr ⟨g, PySem.W.cellsFrom_some _ _ _ (.inl g)⟩
  refine codeAny_call_function room.depth (KX _ _ lk) rfl S.co S.gen rfl (PySem.W.codeRec_of KX hcd) (hb _ _ _ _ (wpAny_newFunctionEnv_cells S.kind kinds fun env he s1 ic => ?_))
  subst he
  refine ⟨lim.keeps ic.toInCall.keep, codeAny_func ?_⟩
  obtain ⟨t, ht, hq⟩ := body cdv s H v Q (room.deeper _) hsp
  have I : Inv (cxOf CX0 P w K mg base N q (defScope st) f cdv callerA [] s H E0) [] (start N [v]) H s1 := inv_start S room.hd e0 rfl (.cons r .nil) ic
  refine wpAny_mono (ht.run [] s1 (start N [v]) H _ I hq) (fun fl s2 hs => ?_) fun e s2 hs => hs
  cases fl with
  | ret u2 =>
    obtain ⟨v2, σ2, H2, J, rv, z⟩ := hs
    exact ⟨v2, H2, J.os, J.bare, J.base, J.hok, rv, z⟩
  | next =>
    obtain ⟨σ2, H2, J, z⟩ := hs
    exact ⟨V.non, H2, J.os, J.bare, J.base, J.hok, rfl, z⟩
  | brk =>
    obtain ⟨_, _, _, z⟩ := hs
    exact False.elim z
  | cont =>
    obtain ⟨_, _, _, z⟩ := hs
    exact False.elim z
theorem law_at {mb : Str → Option Value} {fa a : Addr} {fd : FuncData} {x : Str} {sp : Sp} {s1 : Shared} {vs : List Value} {ns : List Int}
    (KX : K.In s1.heap) (hns : s1.heap.Ns mainGlobals mg) (hb : s1.heap.Ns builtinsNs mb) (hbb : ∀ x : Str, x ≠ "__name__" → mb x = bootBuiltins x) (lim : s1.heap.NoLimit) (hg : s1.gens = #[])
    (ha : s1.heap.get? a = some { cls := .type "list", data := .seq vs.toArray }) (hi : IntsAre vs ns) (hl : ns.length ≤ sizeLine)
    (F : ∀ base : Heap, K.In base → base.Ns mainGlobals mg → AtTop P w K mg base fa fd x sp) (hbind : ∀ (s : Shared) (u : Value), BindsTo s fd ⟨[u], []⟩ [(x, u)])
    (hsp : ∀ H : Hp, Only H → SqL K H a (ns.map V.int) → sp [.ref a] H (fun v _ => v = .bl true) E0) :
    codeAny (model P w) callerA (.call (.ref fa) ⟨[.ref a], []⟩) (fun r s' => r = .ok (.ret (.bool true)) ∧ OldK s1.heap s'.heap ∧ s'.os = s1.os ∧ AllBare s'.gens) s1 := by
  have core : ∀ H : Hp, Only H → SqL K H a (ns.map V.int) → HOk P w H s1.heap → (∀ b, H b ≠ none → b = a) → (H a ≠ none → K.lookup a = none) →
      codeAny (model P w) callerA (.call (.ref fa) ⟨[.ref a], []⟩) (fun r s' => r = .ok (.ret (.bool true)) ∧ OldK s1.heap s'.heap ∧ s'.os = s1.os ∧ AllBare s'.gens) s1 := by
    intro H hO hS hok hA hK
    have hid : ∀ {b : Addr} {o : Obj}, s1.heap.get? b = some o → H b = none → (hidT s1.heap H).get? b = some o := fun e n => hidT_get e n
    have only : ∀ {b : Addr} {u : HO}, H b = some u → b = a := fun {b u} z => hA b (by rw [z]; exact Option.some_ne_none _)
    have dict_no : ∀ {b : Addr} {o : Obj} {es : Array DictEntry} {ep : Nat}, s1.heap.get? b = some o → o.data = .dict es ep → H b = none := fun {b o es ep} e d => by
      cases z : H b with
      | none => rfl
      | some u =>
        have e' := only z
        subst e'
        rw [ha] at e; cases e
        exact nomatch (show Data.seq vs.toArray _ = Data.dict es ep from d)
    have ns_of : ∀ {b : Addr} {m : Str → Option Value}, s1.heap.Ns b m → (hidT s1.heap H).Ns b m := fun {b m} ⟨o, es, ep, e, d, r⟩ => ⟨o, es, ep, hid e (dict_no e d), d, r⟩
    have kb : K.In (hidT s1.heap H) := fun b o e => hid (KX b o e) (by
      cases z : H b with
      | none => rfl
      | some u =>
        have e' := only z
        subst e'
        rw [hK (by rw [z]; exact Option.some_ne_none _)] at e; cases e)
    have md : Mod K mg (hidT s1.heap H) := ⟨kb, ns_of hns, ⟨mb, ns_of hb, hbb⟩, let ⟨mc, h1, h2⟩ := lim; ⟨mc, ns_of h1, h2⟩⟩
    have e0 : Env0 P w K mg (hidT s1.heap H) callerA [] s1 H := ⟨rfl, md, fun b o e => of_hidT e, Nat.le_of_eq (hidT_size _ _), trivial, fun b z => absurd (show b ∈ ([] : List Addr) from z) List.not_mem_nil, hok, .of_eq hg⟩
    refine codeAny_mono (F _ kb (ns_of hns) s1 H (.ref a) (.ref a) _ e0 (hbind s1 (.ref a)) rfl (hsp H hO hS)) fun r s2 h => ?_
    cases r with
    | error e => exact False.elim h
    | ok fl =>
      cases fl with
      | next => exact False.elim h
      | brk => exact False.elim h
      | cont => exact False.elim h
      | ret u =>
        obtain ⟨v, H2, os, bare, un, hok2, r2, z⟩ := h
        obtain rfl : v = .bl true := z
        obtain rfl : u = Value.bool true := r2
        refine ⟨rfl, OldK.of_keep (fun b o e => ?_), os, bare⟩
        rcases hO b with z | ⟨ob, xs, z⟩
        · exact un.keep b o e z (fun y => absurd (show b ∈ ([] : List Addr) from y) List.not_mem_nil) List.not_mem_nil
        · obtain ⟨e1, _⟩ := hok b _ z
          obtain ⟨e2, _⟩ := hok2 b _ (un.frzs b ob _ z)
          rw [e] at e1; cases e1
          exact e2
  have rv := vals_ints hi
  have ln := hi.length
  cases hk : K.lookup a with
  | some o =>
    have e := KX a o hk
    rw [ha] at e
    cases e
    exact core (fun _ => none) (fun _ => .inl rfl) (.inr ⟨_, vs.toArray, _, hk, rfl, rfl, rfl, by rw [List.size_toArray, ln]; exact hl, by simpa using rv⟩) (fun b u z => nomatch (show (none : Option HO) = some u from z)) (fun b z => absurd rfl z) (fun z => absurd rfl z)
  | none =>
    refine core (upd (fun _ => none) a (.frz { cls := .type "list", data := .seq vs.toArray } (.lst (ns.map V.int)))) (fun b => ?_) (.inl (.inr ⟨{ cls := .type "list", data := .seq vs.toArray }, upd_same⟩)) (fun b u z => ?_) (fun b z => ?_) (fun _ => hk)
    · by_cases e : b = a
      · rw [e]; exact .inr ⟨_, _, upd_same⟩
      · exact .inl (upd_ne e)
    · by_cases e : b = a
      · subst e
        rw [upd_same] at z
        cases z
        exact ⟨ha, by rw [List.length_map]; exact hl, vs, _, rv, ha⟩
      · rw [upd_ne e] at z
        cases z
    · by_cases e : b = a
      · exact e
      · exact absurd (upd_ne e) z
end
/-! what k_head leaves, from the law's promise -/
theorem walk_top {l : PySem.W.OpenLaw} {n : Nat} {q : Program} {loose : List Str} {XP : (Str → Option Value) → Heap → Prop} {YP : World → Heap → Prop} {d : DefRec} {K : Params → PySem.W.Frag} {sp : World → Sp} {x : Str}
    (hn : l.most = some n) (hn2 : n ≤ sizeLine) (hdf : d.params.defaults = []) (hY : ∀ (w : World) (h : Heap), YP w h → (K w.params).In h)
    (F : ∀ (w : World) (mg : Str → Option Value) (fa : Addr) (h : Heap), (K w.params).In h → h.Ns mainGlobals mg → mg d.name = some (.ref fa) →
      ∃ fd : FuncData, (∀ (s : Shared) (u : Value), BindsTo s fd ⟨[u], []⟩ [(x, u)]) ∧ ∀ base : Heap, (K w.params).In base → base.Ns mainGlobals mg → AtTop l.prog w (K w.params) mg base fa fd x (sp w))
    (hsp : ∀ (w : World) (H : Hp) (a : Addr) (ns : List Int), ns.length ≤ n → Only H → SqL (K w.params) H a (ns.map V.int) → sp w [.ref a] H (fun v _ => v = .bl true) E0) :
    PySem.W.WalkO q loose XP YP l.row.toRowW d [] (fun f vs => PySem.call f vs) := by
  refine Att.attach_call hn hdf (fun w s0 s1 mg mb fa o pm cd doc a vs ns G Y ho hd hcd hmg hobj hin hlen hg => ?_)
  have KX := hY w _ Y
  obtain ⟨fd, hb, hF⟩ := F w mg fa _ KX G.T.g hmg
  exact law_at KX G.T.g G.T.b G.T.builtins G.T.nolimit hg hobj hin (Nat.le_trans hlen hn2) hF hb (fun H hO hS => hsp w H a ns hlen hO hS)
end Rw

namespace Rw
open PySem PySem.Spec PyProof.Rows L2
/-! ### the text -/
def topS (i : Nat) : Stmt := PySem.Challenge.pw_ropewarren_k44_long_arms.main.body.getD i (.Pass ⟨0, 0, 0, 0⟩)
/-! ### what stands at the top: a def that keeps a promise, built-ins that are still theirs -/
def Can (P : Program) (w : World) (K : PySem.W.Frag) (mg : Str → Option Value) (base : Heap) (x : Str) (ps : List Str) (k : Nat) (sp : Sp) : Prop :=
  ∃ f fd, FnOk P w K mg base CX0 k f fd ps sp ∧ mg x = some (.ref f) ∧ PySem.W.keepIn K (.ref f) = true ∧ Binds K fd ps []
def Has (K : PySem.W.Frag) (mg : Str → Option Value) (x : Str) (st : Stmt) : Prop := ∃ f fd, Fun K x x st f fd ∧ mg x = some (.ref f)
structure Blt (mg : Str → Option Value) : Prop where
  isi : mg "isinstance" = none
  int_ : mg "int" = none
  bool_ : mg "bool" = none
  tuple_ : mg "tuple" = none
  list_ : mg "list" = none
  len_ : mg "len" = none
  abs_ : mg "abs" = none
  sorted_ : mg "sorted" = none
  set_ : mg "set" = none
  range_ : mg "range" = none
  min_ : mg "min" = none
  str_ : mg "str" = none
  reversed_ : mg "reversed" = none
  repr_ : mg "repr" = none
  enum_ : mg "enumerate" = none
  max_ : mg "max" = none
  sum_ : mg "sum" = none
  all_ : mg "all" = none
  any_ : mg "any" = none
theorem pe_can {X : Cx} {x : Str} {ps : List Str} {k : Nat} {sp : Sp} {e : Expr} {es : List Expr} {t : TA} {p pos : Pos} (C : Can X.prog X.w X.K X.mg X.base x ps k sp) (hr : Room k X.A) (hg : Gl X x)
    (ha : PA X (e :: es) t) (hdb : (x == ("__debug__" : Str)) = false := by decide) (he : starEach (e :: es) X.env = (false, eval e X.env) :: starEach es X.env := by rfl) (hpl : (backTo pos (starEach es X.env)).any (·.1) = false := by rfl) :
    PE X (.Call (.Name x p) (e :: es) [] pos) (tCall sp [] E0 t) := by
  obtain ⟨f, fd, F, gm, kp, b⟩ := C
  exact pe_call F hr hg gm kp b .nil pass0 ha hdb he hpl
/-! ### isinstance of data -/
def tn : PyData → String
  | .none => "NoneType"
  | .bool _ => "bool"
  | .int _ => "int"
  | .str _ => "str"
  | .list _ => "list"
  | .tuple _ => "tuple"
  | .dict _ => "dict"
theorem Dt.ty {K : PySem.W.Frag} {av : List Addr} {H : Hp} {v : V} {d : PyData} (x : Dt av H v d) : TyX K H v (.type (tn d)) := by
  cases x with
  | non => exact .base .non
  | bl b => exact .base (.bl b)
  | int i => exact .base (.int i)
  | str y => exact .base (.str y)
  | lst _ e _ => exact .base (.lst e)
  | tup _ e _ => exact .base (.tup e)
  | dct _ e => exact .base (.dK e)
def aInt : PyData → Bool
  | .int _ => true
  | .bool _ => true
  | _ => false
def aBool : PyData → Bool
  | .bool _ => true
  | _ => false
def aTup : PyData → Bool
  | .tuple _ => true
  | _ => false
theorem kit_int (d : PyData) : kitB (tn d) "int" = some (aInt d) := by
  cases d <;> first | exact (show kitB "NoneType" "int" = some false by decide +kernel) | exact (show kitB "bool" "int" = some true by decide +kernel) | exact (show kitB "int" "int" = some true by decide +kernel) | exact (show kitB "str" "int" = some false by decide +kernel) | exact (show kitB "list" "int" = some false by decide +kernel) | exact (show kitB "tuple" "int" = some false by decide +kernel) | exact (show kitB "dict" "int" = some false by decide +kernel)
theorem kit_bool (d : PyData) : kitB (tn d) "bool" = some (aBool d) := by
  cases d <;> first | exact (show kitB "NoneType" "bool" = some false by decide +kernel) | exact (show kitB "bool" "bool" = some true by decide +kernel) | exact (show kitB "int" "bool" = some false by decide +kernel) | exact (show kitB "str" "bool" = some false by decide +kernel) | exact (show kitB "list" "bool" = some false by decide +kernel) | exact (show kitB "tuple" "bool" = some false by decide +kernel) | exact (show kitB "dict" "bool" = some false by decide +kernel)
theorem kit_tup (d : PyData) : kitB (tn d) "tuple" = some (aTup d) := by
  cases d <;> first | exact (show kitB "NoneType" "tuple" = some false by decide +kernel) | exact (show kitB "bool" "tuple" = some false by decide +kernel) | exact (show kitB "int" "tuple" = some false by decide +kernel) | exact (show kitB "str" "tuple" = some false by decide +kernel) | exact (show kitB "list" "tuple" = some false by decide +kernel) | exact (show kitB "tuple" "tuple" = some true by decide +kernel) | exact (show kitB "dict" "tuple" = some false by decide +kernel)
def rIs (T : String) (f : PyData → Bool) : List V → Hp → VK → Prop := fun xs H Q => ∃ v d av, xs = [v, .ty T] ∧ Dt av H v d ∧ Q (.bl (f d)) H
theorem call_isD {X : Cx} {T : String} {f : PyData → Bool} (hf : ∀ d, kitB (tn d) T = some (f d)) : CallR X (.builtin "isinstance") (rIs T f) := by
  intro pins s σ H xs us Q I r h
  obtain ⟨v, d, av, e, hd, q⟩ := h
  exact call_isi pins s σ H xs us Q I r ⟨v, .ty T, .type (tn d), .type T, f d, e, .ty T, hd.ty, kit_ty (hf d), q⟩
end Rw

namespace Rw
open PySem PySem.Spec PyProof.Rows L2
/-! ### places of a house, by data -/
def lenOf : PyData → Int
  | .tuple (_ :: _ :: .int l :: _) => l
  | _ => 0
def PipesOk (ps : List PyData) : Prop := ∀ p ∈ ps, ∃ a b l r, p = .tuple (a :: b :: .int l :: r)
def houseD (n : Int) (ps : List PyData) : PyData := .tuple [.int n, .tuple ps]
end Rw

namespace Rw
open PySem PySem.Spec PyProof.Rows L2
theorem Keep.upd {av : List Addr} {H H1 : Hp} {p : Addr} {o : HO} (n : H p = none) (k : Keep av H H1) : Keep av H (upd H1 p o) := fun b z e nb => by
  rw [upd_ne (ne_of_none e n)]; exact k b z e nb
theorem Keep.set {av : List Addr} {H H1 : Hp} {p : Addr} {o : HO} (n : p ∈ av) (k : Keep av H H1) : Keep av H (L2.upd H1 p o) := k.trans (Keep.put n)
theorem Keep.same {H H1 : Hp} (k : Keep [] H H1) : Same H H1 := fun b o e => k b o e List.not_mem_nil
theorem Keep.of {av : List Addr} {H H1 : Hp} (k : Keep [] H H1) : Keep av H H1 := k.mono fun _ m => nomatch m
theorem cut_to (xs : List V) (k : Nat) : cutV xs none (some (k : Int)) = xs.take k := by
  unfold cutV
  rw [HT.sIx_none, HT.sIx_nat, List.drop_zero, Nat.sub_zero]
  by_cases h : k ≤ xs.length
  · rw [Nat.min_eq_left h]
  · rw [Nat.min_eq_right (by omega), List.take_of_length_le (Nat.le_refl _), List.take_of_length_le (by omega)]
theorem cut_from (xs : List V) (k : Nat) : cutV xs (some (k : Int)) none = xs.drop k := by
  unfold cutV
  rw [HT.sIx_none, HT.sIx_nat]
  by_cases h : k ≤ xs.length
  · rw [Nat.min_eq_left h, List.take_of_length_le (by rw [List.length_drop]; exact Nat.le_refl _)]
  · rw [Nat.min_eq_right (by omega), List.drop_of_length_le (Nat.le_refl _), List.drop_of_length_le (show xs.length ≤ k by omega), List.take_nil]
/-! ### the deck: its cells, its rests, its count (at most b) -/
structure Deck (H : Hp) (D C R : Addr) (b : Int) : Prop where
  ex : ∃ (ns rs : List Int) (c : Int), H D = some (.lst [.ref C, .ref R, .int c]) ∧ H C = some (.lst (ns.map V.int)) ∧ H R = some (.lst (rs.map V.int)) ∧
    rs.length = ns.length ∧ 0 < ns.length ∧ ns.length ≤ 100 ∧ (∀ n ∈ ns, 0 ≤ n) ∧ (∀ r ∈ rs, 0 ≤ r) ∧ 0 ≤ c ∧ c ≤ b
  cr : C ≠ R
  dc : D ≠ C
  dr : D ≠ R
theorem Deck.mono {H : Hp} {D C R : Addr} {b b' : Int} (x : Deck H D C R b) (h : b ≤ b') : Deck H D C R b' := by
  obtain ⟨⟨ns, rs, c, e1, e2, e3, e4, e5, e6, e7, e8, e9, e10⟩, n1, n2, n3⟩ := x
  exact ⟨⟨ns, rs, c, e1, e2, e3, e4, e5, e6, e7, e8, e9, by omega⟩, n1, n2, n3⟩
theorem Deck.keep {H H' : Hp} {D C R : Addr} {b : Int} (x : Deck H D C R b) (k : Keep [] H H') : Deck H' D C R b := by
  obtain ⟨⟨ns, rs, c, e1, e2, e3, r⟩, n1, n2, n3⟩ := x
  exact ⟨⟨ns, rs, c, k _ _ e1 List.not_mem_nil, k _ _ e2 List.not_mem_nil, k _ _ e3 List.not_mem_nil, r⟩, n1, n2, n3⟩
/-! a store elsewhere leaves the deck -/
theorem Deck.other {H : Hp} {D C R p : Addr} {b : Int} {o : HO} (x : Deck H D C R b) (h1 : p ≠ D) (h2 : p ≠ C) (h3 : p ≠ R) : Deck (upd H p o) D C R b := by
  obtain ⟨⟨ns, rs, c, e1, e2, e3, r⟩, n1, n2, n3⟩ := x
  exact ⟨⟨ns, rs, c, by rw [upd_ne h1.symm]; exact e1, by rw [upd_ne h2.symm]; exact e2, by rw [upd_ne h3.symm]; exact e3, r⟩, n1, n2, n3⟩
theorem Deck.ne {H : Hp} {D C R p : Addr} {b : Int} (x : Deck H D C R b) (n : H p = none) : p ≠ D ∧ p ≠ C ∧ p ≠ R := by
  obtain ⟨⟨ns, rs, c, e1, e2, e3, r⟩, _⟩ := x
  exact ⟨(ne_of_none e1 n).symm, (ne_of_none e2 n).symm, (ne_of_none e3 n).symm⟩
theorem Deck.new {H : Hp} {D C R p : Addr} {b : Int} {o : HO} (x : Deck H D C R b) (n : H p = none) : Deck (upd H p o) D C R b :=
  x.other (x.ne n).1 (x.ne n).2.1 (x.ne n).2.2
end Rw

namespace Rw
open PySem PySem.Spec PyProof.Rows L2
theorem ixN_at {n : Nat} {i : Int} (h0 : 0 ≤ i) (h : i < n) : ixN n i = some i.toNat := by
  unfold ixN
  rw [if_pos h0]
  first | rw [if_pos (show i.toNat < n by omega)] | (rw [if_pos (show i < n by omega)])
theorem set_map (rs : List Int) (j : Nat) (x : Int) : (rs.map V.int).set j (.int x) = (rs.set j x).map V.int := by rw [List.map_set]
end Rw

namespace Rw
open PySem PySem.Spec PyProof.Rows L2
theorem atI_of {α : Type} {xs : List α} {i : Int} {v : α} (h0 : 0 ≤ i) (h : xs[i.toNat]? = some v) : atI xs i = some v := by
  have hl := (List.getElem?_eq_some_iff.mp h).1
  unfold atI
  rw [ixN_at h0 (by omega)]
  exact h
theorem Deck.at {H : Hp} {D C R : Addr} {b : Int} (x : Deck H D C R b) : (∃ o, H D = some o) ∧ (∃ o, H C = some o) ∧ ∃ o, H R = some o := by
  obtain ⟨⟨ns, rs, c, e1, e2, e3, r⟩, _⟩ := x
  exact ⟨⟨_, e1⟩, ⟨_, e2⟩, ⟨_, e3⟩⟩
theorem Keep.free {H H' : Hp} {D C R p : Addr} {b : Int} (k : Keep [D, R] H H') (x : Deck H' D C R b) (n : H' p = none) : H p = none := by
  cases hq : H p with
  | none => rfl
  | some o =>
    have nd : p ∉ [D, R] := fun m => by
      obtain ⟨n1, n2, n3⟩ := x.ne n
      rcases List.mem_cons.mp m with m | m
      · exact n1 m
      · exact n3 (List.mem_singleton.mp m)
    rw [k p o hq nd] at n; cases n
theorem notDR {D R p : Addr} (h1 : p ≠ D) (h2 : p ≠ R) : p ∉ [D, R] := fun m => by
  rcases List.mem_cons.mp m with m | m
  · exact h1 m
  · exact h2 (List.mem_singleton.mp m)
end Rw

namespace Rw
open PySem PySem.Spec PyProof.Rows L2
/-! addresses that are tracked -/
def Tr (av : List Addr) (H : Hp) : Prop := ∀ a ∈ av, ∃ o, H a = some o
theorem Tr.not {av : List Addr} {H : Hp} {p : Addr} (t : Tr av H) (n : H p = none) : p ∉ av := fun m => by
  obtain ⟨o, e⟩ := t p m
  rw [n] at e; cases e
theorem Tr.upd {av : List Addr} {H : Hp} {p : Addr} {o : HO} (t : Tr av H) : Tr av (upd H p o) := fun a m => by
  by_cases e : a = p
  · subst e; exact ⟨o, upd_same⟩
  · obtain ⟨u, z⟩ := t a m
    exact ⟨u, by rw [upd_ne e]; exact z⟩
theorem Tr.cons {av : List Addr} {H : Hp} {p : Addr} {o : HO} (t : Tr av H) (e : H p = some o) : Tr (p :: av) H := fun a m => by
  rcases List.mem_cons.mp m with m | m
  · rw [m]; exact ⟨o, e⟩
  · exact t a m
theorem Tr.keep {av : List Addr} {H H' : Hp} {D C R : Addr} {b : Int} (t : Tr av H) (k : Keep [D, R] H H') (d : Deck H' D C R b) : Tr av H' := fun a m => by
  cases e : H' a with
  | some o => exact ⟨o, rfl⟩
  | none =>
    obtain ⟨o, z⟩ := t a m
    rw [k.free d e] at z; cases z
theorem ix_listK {X : Cx} {K : PySem.W.Frag} (h : X.K = K) : IxR X (rIxL K) := by subst h; exact ix_list
theorem pick4 (a b c d : Int) (n : Nat) (h : n < 4) : ∃ j, [V.int a, V.int b, V.int c, V.int d][n]? = some (.int j) ∧ (j = a ∨ j = b ∨ j = c ∨ j = d) := by
  match n, h with
  | 0, _ => exact ⟨a, rfl, .inl rfl⟩
  | 1, _ => exact ⟨b, rfl, .inr (.inl rfl)⟩
  | 2, _ => exact ⟨c, rfl, .inr (.inr (.inl rfl))⟩
  | 3, _ => exact ⟨d, rfl, .inr (.inr (.inr rfl))⟩
/-! ### a pipe, by data -/
def prD (p : Int × Int) : PyData := .tuple [.int p.1, .int p.2]
def pipeD (x y l : Int) (na fl : List (Int × Int)) : PyData := .tuple [.int x, .int y, .int l, .tuple (na.map prD), .tuple (fl.map prD)]
structure Fit (l : Int) (na fl : List (Int × Int)) : Prop where
  l1 : 1 ≤ l
  l2 : l ≤ 1000000000000
  nup : (na.map (·.1)).Pairwise (· < ·)
  nin : ∀ p ∈ na, 1 ≤ p.1 ∧ p.1 ≤ l - 1 ∧ 1 ≤ p.2 ∧ p.2 ≤ 1000000
  fup : (fl.map (·.1)).Pairwise (· < ·)
  fin : ∀ p ∈ fl, 0 ≤ p.1 ∧ p.1 ≤ l - 1 ∧ (p.2 = 1 ∨ p.2 = -1)
  nle : na.length ≤ 3
  fle : fl.length ≤ 3
end Rw

namespace Rw
/-! ### rooms joined by pipes: two ways to look, one word -/
abbrev Ed := Nat × Nat
/-! what any parting of the rooms that no pipe crosses says -/
def Con (n : Nat) (E : List Ed) : Prop := ∀ S : Nat → Bool, (∀ e ∈ E, S e.1 = S e.2) → ∀ a, a < n → S a = S 0
/-! groups -/
def grp (g : List Int) (a : Nat) : Int := g.getD a 0
def merge (k o : Int) (g : List Int) : List Int := g.map fun v => if v = o then k else v
def step (g : List Int) (e : Ed) : List Int := merge (grp g e.1) (grp g e.2) g
def joins : List Int → List Ed → Bool
  | _, [] => true
  | g, e :: E => if grp g e.1 = grp g e.2 then false else joins (step g e) E
def start (n : Nat) : List Int := (List.range n).map Int.ofNat
theorem merge_len (k o : Int) (g : List Int) : (merge k o g).length = g.length := List.length_map _
theorem merge_grp {g : List Int} {a : Nat} (h : a < g.length) (k o : Int) : grp (merge k o g) a = if grp g a = o then k else grp g a := by
  unfold grp merge
  rw [List.getD_eq_getElem?_getD, List.getElem?_map, List.getD_eq_getElem?_getD, List.getElem?_eq_getElem h]
  rfl
theorem merge_self (k : Int) (g : List Int) : merge k k g = g := by
  unfold merge
  conv => rhs; rw [← List.map_id g]
  apply List.map_congr_left
  intro v _
  by_cases h : v = k
  · rw [if_pos h, h]; rfl
  · rw [if_neg h]; rfl
/-! how many names of groups are left -/
def used (n : Nat) (g : List Int) : List Nat := (List.range n).filter fun v => decide ((v : Int) ∈ g)
theorem grp_mem {g : List Int} {a : Nat} (h : a < g.length) : grp g a ∈ g := by
  unfold grp
  rw [List.getD_eq_getElem?_getD, List.getElem?_eq_getElem h]
  exact List.getElem_mem h
theorem mem_grp {g : List Int} {v : Int} (h : v ∈ g) : ∃ a, a < g.length ∧ grp g a = v := by
  obtain ⟨a, ha, e⟩ := List.mem_iff_getElem.mp h
  refine ⟨a, ha, ?_⟩
  unfold grp
  rw [List.getD_eq_getElem?_getD, List.getElem?_eq_getElem ha, ← e]; rfl
theorem mem_merge {k o v : Int} {g : List Int} (hk : k ∈ g) (hko : k ≠ o) : v ∈ merge k o g ↔ v ∈ g ∧ v ≠ o := by
  unfold merge
  rw [List.mem_map]
  constructor
  · rintro ⟨u, hu, e⟩
    by_cases h : u = o
    · rw [if_pos h] at e; subst e; exact ⟨hk, hko⟩
    · rw [if_neg h] at e; subst e; exact ⟨hu, h⟩
  · rintro ⟨hv, ho⟩
    exact ⟨v, hv, if_neg ho⟩
theorem filter_drop {n : Nat} {p : Nat → Bool} {o : Nat} : ∀ l : List Nat, l.Nodup → o ∈ l → p o = true → (l.filter fun v => p v && decide (v ≠ o)).length + 1 = (l.filter p).length
  | [], _, h, _ => nomatch h
  | x :: l, nd, h, hp => by
    rw [List.nodup_cons] at nd
    by_cases e : x = o
    · subst e
      have z : (l.filter fun v => p v && decide (v ≠ x)) = l.filter p := by
        apply List.filter_congr
        intro v hv
        have : v ≠ x := fun q => nd.1 (q ▸ hv)
        rw [decide_eq_true this, Bool.and_true]
      rw [List.filter_cons, List.filter_cons, hp]
      simp only [ne_eq, not_true_eq_false, decide_false, Bool.and_false, Bool.false_eq_true, if_false, if_true]
      rw [List.length_cons]
      simp only [ne_eq] at z
      rw [z]
    · have h' : o ∈ l := (List.mem_cons.mp h).elim (fun q => absurd q.symm e) id
      have ih := filter_drop (n := n) l nd.2 h' hp
      rw [List.filter_cons, List.filter_cons, decide_eq_true e, Bool.and_true]
      by_cases px : p x = true
      · rw [if_pos px, if_pos px, List.length_cons, List.length_cons]; omega
      · rw [if_neg px, if_neg px]; exact ih
structure Gs (n : Nat) (g : List Int) : Prop where
  len : g.length = n
  rng : ∀ v ∈ g, 0 ≤ v ∧ v < n
theorem Gs.start (n : Nat) : Gs n (start n) := by
  refine ⟨by unfold Rw.start; rw [List.length_map, List.length_range], fun v hv => ?_⟩
  unfold Rw.start at hv
  obtain ⟨a, ha, rfl⟩ := List.mem_map.mp hv
  have := List.mem_range.mp ha
  exact ⟨Int.natCast_nonneg a, Int.ofNat_lt.mpr this⟩
theorem Gs.step {n : Nat} {g : List Int} {e : Ed} (h : Gs n g) (h1 : e.1 < n) (h2 : e.2 < n) : Gs n (step g e) := by
  refine ⟨by unfold Rw.step; rw [merge_len]; exact h.len, fun v hv => ?_⟩
  unfold Rw.step merge at hv
  obtain ⟨u, hu, rfl⟩ := List.mem_map.mp hv
  by_cases q : u = grp g e.2
  · rw [if_pos q]; exact h.rng _ (grp_mem (by rw [h.len]; exact h1))
  · rw [if_neg q]; exact h.rng u hu
theorem used_step {n : Nat} {g : List Int} {e : Ed} (h : Gs n g) (h1 : e.1 < n) (h2 : e.2 < n) (ne : grp g e.1 ≠ grp g e.2) : (used n (step g e)).length + 1 = (used n g).length := by
  have m1 : grp g e.1 ∈ g := grp_mem (by rw [h.len]; exact h1)
  have m2 : grp g e.2 ∈ g := grp_mem (by rw [h.len]; exact h2)
  have r2 := h.rng _ m2
  have eo : ((grp g e.2).toNat : Int) = grp g e.2 := by omega
  unfold used Rw.step
  have z : ((List.range n).filter fun (v : Nat) => decide ((v : Int) ∈ merge (grp g e.1) (grp g e.2) g)) = (List.range n).filter fun (v : Nat) => decide ((v : Int) ∈ g) && decide (v ≠ (grp g e.2).toNat) := by
    apply List.filter_congr
    intro v _
    rw [← Bool.decide_and]
    apply decide_eq_decide.mpr
    rw [mem_merge m1 ne]
    constructor
    · rintro ⟨a, b⟩; exact ⟨a, fun q => b (by rw [q]; exact eo)⟩
    · rintro ⟨a, b⟩; exact ⟨a, fun q => b (by omega)⟩
  rw [z]
  exact filter_drop (n := n) (List.range n) List.nodup_range (List.mem_range.mpr (by omega)) (decide_eq_true (by rw [eo]; exact m2))
theorem used_start (n : Nat) : (used n (start n)).length = n := by
  unfold used
  rw [List.filter_eq_self.mpr (fun v hv => decide_eq_true (by unfold Rw.start; exact List.mem_map.mpr ⟨v, hv, rfl⟩)), List.length_range]
/-! all pipes taken, whether or not they join anew -/
def run (g : List Int) (E : List Ed) : List Int := E.foldl step g
theorem run_gs {n : Nat} : ∀ (E : List Ed) (g : List Int), (∀ e ∈ E, e.1 < n ∧ e.2 < n) → Gs n g → Gs n (run g E)
  | [], g, _, h => h
  | e :: E, g, hE, h => run_gs E (step g e) (fun f m => hE f (List.mem_cons_of_mem _ m)) (h.step (hE e List.mem_cons_self).1 (hE e List.mem_cons_self).2)
theorem used_run {n : Nat} : ∀ (E : List Ed) (g : List Int), (∀ e ∈ E, e.1 < n ∧ e.2 < n) → Gs n g → (used n g).length ≤ (used n (run g E)).length + E.length ∧ (joins g E = true → (used n g).length = (used n (run g E)).length + E.length) ∧ (joins g E = false → (used n g).length < (used n (run g E)).length + E.length)
  | [], g, _, h => ⟨Nat.le_refl _, fun _ => rfl, fun q => nomatch q⟩
  | e :: E, g, hE, h => by
    have he := hE e List.mem_cons_self
    have ih := used_run E (step g e) (fun f m => hE f (List.mem_cons_of_mem _ m)) (h.step he.1 he.2)
    have er : run g (e :: E) = run (step g e) E := rfl
    have ej : joins g (e :: E) = if grp g e.1 = grp g e.2 then false else joins (step g e) E := rfl
    rw [er, ej, List.length_cons]
    by_cases q : grp g e.1 = grp g e.2
    · have es : step g e = g := by unfold Rw.step; rw [q]; exact merge_self _ _
      rw [es] at ih ⊢
      rw [if_pos q]
      exact ⟨by omega, fun z => absurd z (by decide), fun _ => by omega⟩
    · have u := used_step h he.1 he.2 q
      rw [if_neg q]
      refine ⟨by omega, fun z => ?_, fun z => ?_⟩
      · have := ih.2.1 z; omega
      · have := ih.2.2 z; omega
/-! rooms of one group stay of one group; a pipe's rooms are of one -/
theorem step_keep {g : List Int} {e : Ed} {a b : Nat} (ha : a < g.length) (hb : b < g.length) (h : grp g a = grp g b) : grp (step g e) a = grp (step g e) b := by
  unfold step
  rw [merge_grp ha, merge_grp hb, h]
theorem step_both {g : List Int} {e : Ed} (ha : e.1 < g.length) (hb : e.2 < g.length) : grp (step g e) e.1 = grp (step g e) e.2 := by
  unfold step
  rw [merge_grp ha, merge_grp hb, if_pos rfl]
  split <;> rfl
theorem run_keep {n : Nat} : ∀ (E : List Ed) (g : List Int), (∀ e ∈ E, e.1 < n ∧ e.2 < n) → Gs n g → ∀ a b, a < n → b < n → grp g a = grp g b → grp (run g E) a = grp (run g E) b
  | [], _, _, _, _, _, _, _, h => h
  | e :: E, g, hE, hg, a, b, ha, hb, h => by
    have he := hE e List.mem_cons_self
    exact run_keep E (step g e) (fun f m => hE f (List.mem_cons_of_mem _ m)) (hg.step he.1 he.2) a b ha hb (step_keep (by rw [hg.len]; exact ha) (by rw [hg.len]; exact hb) h)
theorem run_edges {n : Nat} : ∀ (E : List Ed) (g : List Int), (∀ e ∈ E, e.1 < n ∧ e.2 < n) → Gs n g → ∀ e ∈ E, grp (run g E) e.1 = grp (run g E) e.2
  | [], _, _, _, _, m => nomatch m
  | e :: E, g, hE, hg, f, m => by
    have he := hE e List.mem_cons_self
    have hg' := hg.step he.1 he.2
    have hE' : ∀ f ∈ E, f.1 < n ∧ f.2 < n := fun f m => hE f (List.mem_cons_of_mem _ m)
    rcases List.mem_cons.mp m with m | m
    · subst m
      exact run_keep E (step g f) hE' hg' f.1 f.2 he.1 he.2 (step_both (by rw [hg.len]; exact he.1) (by rw [hg.len]; exact he.2))
    · exact run_edges E (step g e) hE' hg' f m
/-! a parting that no pipe crosses holds groups together -/
theorem run_part {n : Nat} (S : Nat → Bool) : ∀ (E : List Ed) (g : List Int), (∀ e ∈ E, e.1 < n ∧ e.2 < n) → (∀ e ∈ E, S e.1 = S e.2) → Gs n g → (∀ a b, a < n → b < n → grp g a = grp g b → S a = S b) → ∀ a b, a < n → b < n → grp (run g E) a = grp (run g E) b → S a = S b
  | [], _, _, _, _, h, a, b, ha, hb, e => h a b ha hb e
  | e :: E, g, hE, hS, hg, h, a, b, ha, hb, q => by
    have he := hE e List.mem_cons_self
    have hs := hS e List.mem_cons_self
    refine run_part S E (step g e) (fun f m => hE f (List.mem_cons_of_mem _ m)) (fun f m => hS f (List.mem_cons_of_mem _ m)) (hg.step he.1 he.2) (fun c d hc hd z => ?_) a b ha hb q
    unfold step at z
    rw [merge_grp (by rw [hg.len]; exact hc), merge_grp (by rw [hg.len]; exact hd)] at z
    by_cases c1 : grp g c = grp g e.2
    · by_cases d1 : grp g d = grp g e.2
      · exact h c d hc hd (c1.trans d1.symm)
      · rw [if_pos c1, if_neg d1] at z
        rw [h c e.2 hc he.2 c1, ← hs, h d e.1 hd he.1 z.symm]
    · by_cases d1 : grp g d = grp g e.2
      · rw [if_neg c1, if_pos d1] at z
        rw [h d e.2 hd he.2 d1, ← hs, h c e.1 hc he.1 z]
      · rw [if_neg c1, if_neg d1] at z
        exact h c d hc hd z
theorem start_inj {n a b : Nat} (ha : a < n) (hb : b < n) (h : grp (start n) a = grp (start n) b) : a = b := by
  unfold grp start at h
  rw [List.getD_eq_getElem?_getD, List.getD_eq_getElem?_getD, List.getElem?_map, List.getElem?_map, List.getElem?_range ha, List.getElem?_range hb] at h
  exact Int.ofNat.inj h
theorem one_used {n : Nat} {g : List Int} (hg : Gs n g) (h : (used n g).length ≤ 1) {a b : Nat} (ha : a < n) (hb : b < n) : grp g a = grp g b := by
  have ma := grp_mem (g := g) (by rw [hg.len]; exact ha)
  have mb := grp_mem (g := g) (by rw [hg.len]; exact hb)
  have ra := hg.rng _ ma
  have rb := hg.rng _ mb
  have ua : (grp g a).toNat ∈ used n g := List.mem_filter.mpr ⟨List.mem_range.mpr (by omega), decide_eq_true (by rw [show (((grp g a).toNat : Nat) : Int) = grp g a by omega]; exact ma)⟩
  have ub : (grp g b).toNat ∈ used n g := List.mem_filter.mpr ⟨List.mem_range.mpr (by omega), decide_eq_true (by rw [show (((grp g b).toNat : Nat) : Int) = grp g b by omega]; exact mb)⟩
  match hu : used n g, h with
  | [], _ => rw [hu] at ua; exact absurd ua List.not_mem_nil
  | [x], _ =>
    rw [hu] at ua ub
    have e1 := List.mem_singleton.mp ua
    have e2 := List.mem_singleton.mp ub
    omega
theorem used_one {n : Nat} {g : List Int} (hg : Gs n g) (h : ∀ a, a < n → grp g a = grp g 0) : (used n g).length ≤ 1 := by
  have nd : (used n g).Nodup := List.nodup_range.filter _
  have all : ∀ v ∈ used n g, (v : Int) = grp g 0 := fun v hv => by
    obtain ⟨a, ha, e⟩ := mem_grp (of_decide_eq_true (List.mem_filter.mp hv).2)
    rw [← e]
    exact h a (by rw [← hg.len]; exact ha)
  match hu : used n g, nd, all with
  | [], _, _ => exact Nat.zero_le _
  | [x], _, _ => exact Nat.le_refl _
  | x :: y :: r, nd, all =>
    have e1 := all x List.mem_cons_self
    have e2 := all y (List.mem_cons_of_mem _ List.mem_cons_self)
    rw [List.nodup_cons] at nd
    exact absurd (show x ∈ y :: r by rw [show x = y by omega]; exact List.mem_cons_self) nd.1
theorem joins_iff {n : Nat} {E : List Ed} (hn : 0 < n) (hE : ∀ e ∈ E, e.1 < n ∧ e.2 < n) (hl : E.length + 1 = n) : joins (start n) E = true ↔ Con n E := by
  have hg := Gs.start n
  have hr := run_gs E (start n) hE hg
  have hu := used_run E (start n) hE hg
  rw [used_start] at hu
  constructor
  · intro hj S hS a ha
    have h1 := hu.2.1 hj
    have eq := one_used hr (by omega) ha hn
    exact run_part S E (start n) hE hS hg (fun c d hc hd z => by rw [start_inj hc hd z]) a 0 ha hn eq
  · intro hc
    cases hj : joins (start n) E with
    | true => rfl
    | false =>
      have h1 := hu.2.2 hj
      have all : ∀ a, a < n → grp (run (start n) E) a = grp (run (start n) E) 0 := fun a ha => by
        have z := hc (fun a => decide (grp (run (start n) E) a = grp (run (start n) E) 0)) (fun e m => by
          have := run_edges E (start n) hE hg e m
          show decide _ = decide _
          rw [this]) a ha
        have z0 : decide (grp (run (start n) E) 0 = grp (run (start n) E) 0) = true := decide_eq_true rfl
        exact of_decide_eq_true (z.trans z0)
      have := used_one hr all
      omega
end Rw

namespace Rw
structure Pi where
  x : Int
  y : Int
  l : Int
  na : List (Int × Int)
  fl : List (Int × Int)
deriving Inhabited
def edges (ps : List Pi) : List Ed := ps.map fun p => (p.x.toNat, p.y.toNat)
end Rw

namespace Rw
/-! ### distances of rooms in a house: a tree's metric, built pipe by pipe -/
def Dn (ps : List Pi) (d : Int → Int → Int) (s t : Int) (i : Nat) : Prop :=
  ∃ p, ps[i]? = some p ∧ ((p.x = t ∧ d s p.y + p.l = d s t) ∨ (p.y = t ∧ d s p.x + p.l = d s t))
structure FM (ps : List Pi) (g : Int → Int) (d : Int → Int → Int) : Prop where
  len : ∀ p ∈ ps, 1 ≤ p.l
  zero : ∀ s, d s s = 0
  sym : ∀ s t, d s t = d t s
  pos : ∀ s t, g s = g t → s ≠ t → 0 < d s t
  ends : ∀ p ∈ ps, g p.x = g p.y
  step : ∀ p ∈ ps, ∀ s, g s = g p.x → d s p.x = d s p.y + p.l ∨ d s p.y = d s p.x + p.l
  par : ∀ s t, g s = g t → s ≠ t → ∃ i, Dn ps d s t i
  uni : ∀ s t i j, g s = g t → Dn ps d s t i → Dn ps d s t j → i = j
  side : ∀ (i j : Nat) (p q : Pi), i ≠ j → ps[i]? = some p → ps[j]? = some q → g p.x = g q.x → d p.x q.x - d p.y q.x = d p.x q.y - d p.y q.y
theorem FM.nn {ps : List Pi} {g : Int → Int} {d : Int → Int → Int} (F : FM ps g d) {s t : Int} (h : g s = g t) : 0 ≤ d s t := by
  by_cases e : s = t
  · subst e; rw [F.zero]; exact Int.le_refl 0
  · have := F.pos s t h e; omega
def g1 (g : Int → Int) (p : Pi) (r : Int) : Int := if g r = g p.y then g p.x else g r
def d1 (g : Int → Int) (d : Int → Int → Int) (p : Pi) (s t : Int) : Int :=
  if g s = g t then d s t else if g s = g p.x ∧ g t = g p.y then d s p.x + p.l + d p.y t else if g s = g p.y ∧ g t = g p.x then d s p.y + p.l + d p.x t else 0
theorem FM.empty : FM [] id (fun _ _ => 0) where
  len := fun _ h => nomatch h
  zero := fun _ => rfl
  sym := fun _ _ => rfl
  pos := fun s t h n => absurd h n
  ends := fun _ h => nomatch h
  step := fun _ h => nomatch h
  par := fun s t h n => absurd h n
  uni := fun _ _ _ _ _ ⟨_, h, _⟩ => by simp at h
  side := fun _ _ _ _ _ h => by simp at h
section
variable {ps : List Pi} {g : Int → Int} {d : Int → Int → Int} {p : Pi}
theorem d1_same {s t : Int} (h : g s = g t) : d1 g d p s t = d s t := by unfold d1; rw [if_pos h]
theorem d1_ab (ne : g p.x ≠ g p.y) {s t : Int} (h1 : g s = g p.x) (h2 : g t = g p.y) : d1 g d p s t = d s p.x + p.l + d p.y t := by
  unfold d1; rw [if_neg (by rw [h1, h2]; exact ne), if_pos ⟨h1, h2⟩]
theorem d1_ba (ne : g p.x ≠ g p.y) {s t : Int} (h1 : g s = g p.y) (h2 : g t = g p.x) : d1 g d p s t = d s p.y + p.l + d p.x t := by
  unfold d1; rw [if_neg (by rw [h1, h2]; exact ne.symm), if_neg (by rw [h1]; exact fun z => ne z.1.symm), if_pos ⟨h1, h2⟩]
theorem g1_cases {s t : Int} (h : g1 g p s = g1 g p t) : g s = g t ∨ (g s = g p.x ∧ g t = g p.y) ∨ (g s = g p.y ∧ g t = g p.x) := by
  unfold g1 at h
  split at h <;> split at h <;> rename_i a b
  · exact .inl (a.trans b.symm)
  · exact .inr (.inr ⟨a, h.symm⟩)
  · exact .inr (.inl ⟨h, b⟩)
  · exact .inl h
theorem get_snoc {i : Nat} {q : Pi} (h : (ps ++ [p])[i]? = some q) : (ps[i]? = some q ∧ q ∈ ps) ∨ (i = ps.length ∧ q = p) := by
  by_cases hi : i < ps.length
  · rw [List.getElem?_append_left hi] at h
    exact .inl ⟨h, List.mem_of_getElem? h⟩
  · rw [List.getElem?_append_right (by omega)] at h
    right
    have : i - ps.length = 0 := by
      apply Classical.byContradiction
      intro z
      rw [List.getElem?_eq_none (by simp; omega)] at h
      cases h
    rw [this] at h
    simp at h
    exact ⟨by omega, h.symm⟩
theorem snoc_get {i : Nat} {q : Pi} (h : ps[i]? = some q) : (ps ++ [p])[i]? = some q := by
  rw [List.getElem?_append_left (List.getElem?_eq_some_iff.mp h).1]; exact h
theorem snoc_last : (ps ++ [p])[ps.length]? = some p := by
  rw [List.getElem?_append_right (Nat.le_refl _), Nat.sub_self]; rfl
/-! going down: old pipes of the same group, of the other one -/
theorem dn_same (F : FM ps g d) {s t : Int} (h : g s = g t) {i : Nat} {q : Pi} (e : ps[i]? = some q) (m : q ∈ ps) :
    ((q.x = t ∧ d1 g d p s q.y + q.l = d1 g d p s t) ∨ (q.y = t ∧ d1 g d p s q.x + q.l = d1 g d p s t)) ↔ ((q.x = t ∧ d s q.y + q.l = d s t) ∨ (q.y = t ∧ d s q.x + q.l = d s t)) := by
  have en := F.ends q m
  rw [d1_same h]
  constructor <;> rintro (⟨a, b⟩ | ⟨a, b⟩)
  · exact .inl ⟨a, by rw [d1_same (by rw [h, ← a, en])] at b; exact b⟩
  · exact .inr ⟨a, by rw [d1_same (by rw [h, ← a, en])] at b; exact b⟩
  · exact .inl ⟨a, by rw [d1_same (by rw [h, ← a, en])]; exact b⟩
  · exact .inr ⟨a, by rw [d1_same (by rw [h, ← a, en])]; exact b⟩
theorem dn_ab (F : FM ps g d) (ne : g p.x ≠ g p.y) {s t : Int} (h1 : g s = g p.x) (h2 : g t = g p.y) {q : Pi} (m : q ∈ ps) :
    ((q.x = t ∧ d1 g d p s q.y + q.l = d1 g d p s t) ∨ (q.y = t ∧ d1 g d p s q.x + q.l = d1 g d p s t)) ↔ ((q.x = t ∧ d p.y q.y + q.l = d p.y t) ∨ (q.y = t ∧ d p.y q.x + q.l = d p.y t)) := by
  have en := F.ends q m
  rw [d1_ab ne h1 h2]
  constructor <;> rintro (⟨a, b⟩ | ⟨a, b⟩)
  · exact .inl ⟨a, by rw [d1_ab ne h1 (by rw [← h2, ← a, en])] at b; omega⟩
  · exact .inr ⟨a, by rw [d1_ab ne h1 (by rw [← h2, ← a, en])] at b; omega⟩
  · exact .inl ⟨a, by rw [d1_ab ne h1 (by rw [← h2, ← a, en])]; omega⟩
  · exact .inr ⟨a, by rw [d1_ab ne h1 (by rw [← h2, ← a, en])]; omega⟩
theorem dn_ba (F : FM ps g d) (ne : g p.x ≠ g p.y) {s t : Int} (h1 : g s = g p.y) (h2 : g t = g p.x) {q : Pi} (m : q ∈ ps) :
    ((q.x = t ∧ d1 g d p s q.y + q.l = d1 g d p s t) ∨ (q.y = t ∧ d1 g d p s q.x + q.l = d1 g d p s t)) ↔ ((q.x = t ∧ d p.x q.y + q.l = d p.x t) ∨ (q.y = t ∧ d p.x q.x + q.l = d p.x t)) := by
  have en := F.ends q m
  rw [d1_ba ne h1 h2]
  constructor <;> rintro (⟨a, b⟩ | ⟨a, b⟩)
  · exact .inl ⟨a, by rw [d1_ba ne h1 (by rw [← h2, ← a, en])] at b; omega⟩
  · exact .inr ⟨a, by rw [d1_ba ne h1 (by rw [← h2, ← a, en])] at b; omega⟩
  · exact .inl ⟨a, by rw [d1_ba ne h1 (by rw [← h2, ← a, en])]; omega⟩
  · exact .inr ⟨a, by rw [d1_ba ne h1 (by rw [← h2, ← a, en])]; omega⟩
/-! the new pipe and an old one can't both lead down -/
theorem dn_new_old (F : FM ps g d) (ne : g p.x ≠ g p.y) (hl : 1 ≤ p.l) {s t : Int} (h : g1 g p s = g1 g p t) {q : Pi} (m : q ∈ ps)
    (hp : (p.x = t ∧ d1 g d p s p.y + p.l = d1 g d p s t) ∨ (p.y = t ∧ d1 g d p s p.x + p.l = d1 g d p s t))
    (hq : (q.x = t ∧ d1 g d p s q.y + q.l = d1 g d p s t) ∨ (q.y = t ∧ d1 g d p s q.x + q.l = d1 g d p s t)) : False := by
  have en := F.ends q m
  have ql := F.len q m
  rcases hp with ⟨rfl, b⟩ | ⟨rfl, b⟩
  · rcases g1_cases h with c | ⟨c1, c2⟩ | ⟨c1, c2⟩
    · rw [d1_ab ne c rfl, d1_same c, F.zero] at b; omega
    · exact ne c2
    · rcases (dn_ba F ne c1 c2 m).mp hq with ⟨a, z⟩ | ⟨a, z⟩
      · have := F.nn (s := p.x) (t := q.y) (by rw [← en, a]); rw [F.zero] at z; omega
      · have := F.nn (s := p.x) (t := q.x) (by rw [en, a]); rw [F.zero] at z; omega
  · rcases g1_cases h with c | ⟨c1, c2⟩ | ⟨c1, c2⟩
    · rw [d1_ba ne c rfl, d1_same c, F.zero] at b; omega
    · rcases (dn_ab F ne c1 c2 m).mp hq with ⟨a, z⟩ | ⟨a, z⟩
      · have := F.nn (s := p.y) (t := q.y) (by rw [← en, a]); rw [F.zero] at z; omega
      · have := F.nn (s := p.y) (t := q.x) (by rw [en, a]); rw [F.zero] at z; omega
    · exact ne c2.symm
theorem FM.snoc (F : FM ps g d) (ne : g p.x ≠ g p.y) (hl : 1 ≤ p.l) : FM (ps ++ [p]) (g1 g p) (d1 g d p) where
  len := fun q m => (List.mem_append.mp m).elim (F.len q) fun z => by rw [List.mem_singleton.mp z]; exact hl
  zero := fun s => by rw [d1_same rfl]; exact F.zero s
  sym := fun s t => by
    show d1 g d p s t = d1 g d p t s
    by_cases h : g s = g t
    · rw [d1_same h, d1_same h.symm]; exact F.sym s t
    · by_cases h1 : g s = g p.x ∧ g t = g p.y
      · rw [d1_ab ne h1.1 h1.2, d1_ba ne h1.2 h1.1, F.sym s p.x, F.sym t p.y]; omega
      · by_cases h2 : g s = g p.y ∧ g t = g p.x
        · rw [d1_ba ne h2.1 h2.2, d1_ab ne h2.2 h2.1, F.sym s p.y, F.sym t p.x]; omega
        · unfold d1
          rw [if_neg h, if_neg h1, if_neg h2, if_neg (fun z : g t = g s => h z.symm), if_neg (fun z : g t = g p.x ∧ g s = g p.y => h2 ⟨z.2, z.1⟩), if_neg (fun z : g t = g p.y ∧ g s = g p.x => h1 ⟨z.2, z.1⟩)]
  pos := fun s t h n => by
    rcases g1_cases h with c | ⟨c1, c2⟩ | ⟨c1, c2⟩
    · rw [d1_same c]; exact F.pos s t c n
    · rw [d1_ab ne c1 c2]; have := F.nn c1; have := F.nn (s := p.y) (t := t) c2.symm; omega
    · rw [d1_ba ne c1 c2]; have := F.nn c1; have := F.nn (s := p.x) (t := t) c2.symm; omega
  ends := fun q m => by
    rcases List.mem_append.mp m with m | m
    · unfold g1; rw [F.ends q m]
    · rw [List.mem_singleton.mp m]; unfold g1; rw [if_pos rfl, if_neg ne]
  step := fun q m s h => by
    rcases List.mem_append.mp m with m | m
    · have en := F.ends q m
      rcases g1_cases h with c | ⟨c1, c2⟩ | ⟨c1, c2⟩
      · rw [d1_same c, d1_same (c.trans en)]; exact F.step q m s c
      · rw [d1_ab ne c1 c2, d1_ab ne c1 (en.symm.trans c2)]; have := F.step q m p.y c2.symm; omega
      · rw [d1_ba ne c1 c2, d1_ba ne c1 (en.symm.trans c2)]; have := F.step q m p.x c2.symm; omega
    · rw [List.mem_singleton.mp m] at h ⊢
      rcases g1_cases h with c | ⟨c1, c2⟩ | ⟨c1, c2⟩
      · rw [d1_same c, d1_ab ne c rfl, F.zero]; omega
      · exact absurd c2 ne
      · rw [d1_ba ne c1 rfl, d1_same c1, F.zero]; omega
  par := fun s t h n => by
    rcases g1_cases h with c | ⟨c1, c2⟩ | ⟨c1, c2⟩
    · obtain ⟨i, q, e, z⟩ := F.par s t c n
      exact ⟨i, q, snoc_get e, (dn_same F c e (List.mem_of_getElem? e)).mpr z⟩
    · by_cases e : p.y = t
      · subst e
        exact ⟨ps.length, p, snoc_last, .inr ⟨rfl, by rw [d1_same c1, d1_ab ne c1 rfl, F.zero]; omega⟩⟩
      · obtain ⟨i, q, e, z⟩ := F.par p.y t c2.symm e
        exact ⟨i, q, snoc_get e, (dn_ab F ne c1 c2 (List.mem_of_getElem? e)).mpr z⟩
    · by_cases e : p.x = t
      · subst e
        exact ⟨ps.length, p, snoc_last, .inl ⟨rfl, by rw [d1_same c1, d1_ba ne c1 rfl, F.zero]; omega⟩⟩
      · obtain ⟨i, q, e, z⟩ := F.par p.x t c2.symm e
        exact ⟨i, q, snoc_get e, (dn_ba F ne c1 c2 (List.mem_of_getElem? e)).mpr z⟩
  uni := fun s t i j h ⟨q1, e1, z1⟩ ⟨q2, e2, z2⟩ => by
    rcases get_snoc e1 with ⟨f1, m1⟩ | ⟨f1, rfl⟩ <;> rcases get_snoc e2 with ⟨f2, m2⟩ | ⟨f2, k2⟩
    · rcases g1_cases h with c | ⟨c1, c2⟩ | ⟨c1, c2⟩
      · exact F.uni s t i j c ⟨q1, f1, (dn_same F c f1 m1).mp z1⟩ ⟨q2, f2, (dn_same F c f2 m2).mp z2⟩
      · exact F.uni p.y t i j c2.symm ⟨q1, f1, (dn_ab F ne c1 c2 m1).mp z1⟩ ⟨q2, f2, (dn_ab F ne c1 c2 m2).mp z2⟩
      · exact F.uni p.x t i j c2.symm ⟨q1, f1, (dn_ba F ne c1 c2 m1).mp z1⟩ ⟨q2, f2, (dn_ba F ne c1 c2 m2).mp z2⟩
    · subst k2; exact (dn_new_old F ne hl h m1 z2 z1).elim
    · exact (dn_new_old F ne hl h m2 z1 z2).elim
    · rw [f1, f2]
  side := fun i j q1 q2 nij e1 e2 h => by
    rcases get_snoc e1 with ⟨f1, m1⟩ | ⟨f1, k1⟩ <;> rcases get_snoc e2 with ⟨f2, m2⟩ | ⟨f2, k2⟩
    · have n1 := F.ends q1 m1
      have n2 := F.ends q2 m2
      rcases g1_cases h with c | ⟨c1, c2⟩ | ⟨c1, c2⟩
      · rw [d1_same c, d1_same (n1.symm.trans c), d1_same (c.trans n2), d1_same (n1.symm.trans (c.trans n2))]
        exact F.side i j q1 q2 nij f1 f2 c
      · rw [d1_ab ne c1 c2, d1_ab ne (n1.symm.trans c1) c2, d1_ab ne c1 (n2.symm.trans c2), d1_ab ne (n1.symm.trans c1) (n2.symm.trans c2)]; omega
      · rw [d1_ba ne c1 c2, d1_ba ne (n1.symm.trans c1) c2, d1_ba ne c1 (n2.symm.trans c2), d1_ba ne (n1.symm.trans c1) (n2.symm.trans c2)]; omega
    · subst k2
      have n1 := F.ends q1 m1
      rcases g1_cases h with c | ⟨c1, c2⟩ | ⟨c1, c2⟩
      · rw [d1_same c, d1_same (n1.symm.trans c), d1_ab ne c rfl, d1_ab ne (n1.symm.trans c) rfl]; omega
      · exact absurd c2 ne
      · rw [d1_ba ne c1 rfl, d1_ba ne (n1.symm.trans c1) rfl, d1_same c1, d1_same (n1.symm.trans c1), F.zero]; omega
    · subst k1
      have n2 := F.ends q2 m2
      rcases g1_cases h with c | ⟨c1, c2⟩ | ⟨c1, c2⟩
      · rw [d1_same c, d1_same (c.trans n2), d1_ba ne rfl c.symm, d1_ba ne rfl (n2.symm.trans c.symm), F.zero]; omega
      · rw [d1_ab ne rfl c2, d1_ab ne rfl (n2.symm.trans c2), d1_same c2.symm, d1_same (c2.symm.trans n2), F.zero]; omega
      · exact absurd c1 ne
    · exact absurd (f1.trans f2.symm) nij
end
/-! all pipes of a house, one behind another -/
theorem FM.all {n : Int} (n0 : 0 ≤ n) : ∀ (qs ps : List Pi) (gl : List Int) (g : Int → Int) (d : Int → Int → Int), FM ps g d → gl.length = n.toNat → (∀ r, 0 ≤ r → r < n → g r = grp gl r.toNat) →
    (∀ p ∈ qs, 0 ≤ p.x ∧ p.x < n ∧ 0 ≤ p.y ∧ p.y < n ∧ 1 ≤ p.l) → joins gl (edges qs) = true → ∃ g' d', FM (ps ++ qs) g' d'
  | [], ps, gl, g, d, F, _, _, _, _ => ⟨g, d, by rw [List.append_nil]; exact F⟩
  | p :: qs, ps, gl, g, d, F, hl, hg, ok, hj => by
    obtain ⟨a1, a2, a3, a4, a5⟩ := ok p List.mem_cons_self
    have hj' : (if grp gl p.x.toNat = grp gl p.y.toNat then false else joins (Rw.step gl (p.x.toNat, p.y.toNat)) (edges qs)) = true := hj
    split at hj'
    · cases hj'
    · rename_i ne
      have ne' : g p.x ≠ g p.y := by rw [hg _ a1 a2, hg _ a3 a4]; exact ne
      obtain ⟨g', d', F'⟩ := FM.all n0 qs (ps ++ [p]) (Rw.step gl (p.x.toNat, p.y.toNat)) (g1 g p) (d1 g d p) (F.snoc ne' a5) (by unfold Rw.step; rw [merge_len]; exact hl) (fun r r0 r1 => by
        unfold Rw.step g1
        rw [merge_grp (by omega), hg _ r0 r1, hg _ a1 a2, hg _ a3 a4]) (fun q m => ok q (List.mem_cons_of_mem _ m)) hj'
      exact ⟨g', d', by rw [List.append_assoc] at F'; exact F'⟩
/-! ### the rooms' distances of a house -/
structure Tm (n : Int) (ps : List Pi) (d : Int → Int → Int) : Prop where
  ok : ∀ p ∈ ps, 0 ≤ p.x ∧ p.x < n ∧ 0 ≤ p.y ∧ p.y < n ∧ 1 ≤ p.l
  zero : ∀ s, d s s = 0
  sym : ∀ s t, d s t = d t s
  pos : ∀ s t, 0 ≤ s → s < n → 0 ≤ t → t < n → s ≠ t → 0 < d s t
  step : ∀ p ∈ ps, ∀ s, 0 ≤ s → s < n → d s p.x = d s p.y + p.l ∨ d s p.y = d s p.x + p.l
  par : ∀ s t, 0 ≤ s → s < n → 0 ≤ t → t < n → s ≠ t → ∃ i, Dn ps d s t i
  uni : ∀ s t i j, 0 ≤ s → s < n → 0 ≤ t → t < n → Dn ps d s t i → Dn ps d s t j → i = j
  side : ∀ (i j : Nat) (p q : Pi), i ≠ j → ps[i]? = some p → ps[j]? = some q → d p.x q.x - d p.y q.x = d p.x q.y - d p.y q.y
theorem tree {n : Int} {ps : List Pi} (n0 : 1 ≤ n) (ln : (ps.length : Int) = n - 1) (ok : ∀ p ∈ ps, 0 ≤ p.x ∧ p.x < n ∧ 0 ≤ p.y ∧ p.y < n ∧ 1 ≤ p.l) (con : Con n.toNat (edges ps)) : ∃ d, Tm n ps d := by
  have hE : ∀ e ∈ edges ps, e.1 < n.toNat ∧ e.2 < n.toNat := by
    intro e he
    obtain ⟨p, m, rfl⟩ := List.mem_map.mp he
    obtain ⟨a1, a2, a3, a4, _⟩ := ok p m
    exact ⟨by show p.x.toNat < n.toNat; omega, by show p.y.toNat < n.toNat; omega⟩
  have hj := (joins_iff (by omega) hE (by unfold edges; rw [List.length_map]; omega)).mpr con
  obtain ⟨g, d, F⟩ := FM.all (n := n) (by omega) ps [] (start n.toNat) id _ FM.empty (by unfold start; rw [List.length_map, List.length_range]) (fun r r0 r1 => by
    unfold grp start
    rw [List.getD_eq_getElem?_getD, List.getElem?_map, List.getElem?_range (by omega)]
    show r = ((r.toNat : Nat) : Int)
    omega) ok hj
  rw [List.nil_append] at F
  have all : ∀ r, 0 ≤ r → r < n → g r = g 0 := by
    intro r r0 r1
    have := con (fun a => decide (g (a : Int) = g 0)) (fun e he => by
      obtain ⟨p, m, rfl⟩ := List.mem_map.mp he
      obtain ⟨a1, a2, a3, a4, _⟩ := ok p m
      show decide (g ((p.x.toNat : Nat) : Int) = g 0) = decide (g ((p.y.toNat : Nat) : Int) = g 0)
      rw [show ((p.x.toNat : Nat) : Int) = p.x by omega, show ((p.y.toNat : Nat) : Int) = p.y by omega, F.ends p m]) r.toNat (by omega)
    have h2 : decide (g ((r.toNat : Nat) : Int) = g 0) = decide (g ((0 : Nat) : Int) = g 0) := this
    rw [show ((r.toNat : Nat) : Int) = r by omega, show ((0 : Nat) : Int) = 0 from rfl, decide_eq_true (rfl : g 0 = g 0)] at h2
    exact of_decide_eq_true h2
  have two : ∀ s t, 0 ≤ s → s < n → 0 ≤ t → t < n → g s = g t := fun s t a b c e => (all s a b).trans (all t c e).symm
  have inx : ∀ p ∈ ps, g p.x = g 0 := fun p m => all _ (ok p m).1 (ok p m).2.1
  exact ⟨d, ok, F.zero, F.sym, fun s t a b c e => F.pos s t (two s t a b c e), fun p m s a b => F.step p m s ((all s a b).trans (inx p m).symm), fun s t a b c e => F.par s t (two s t a b c e), fun s t i j a b c e => F.uni s t i j (two s t a b c e),
    fun i j p q nij e1 e2 => F.side i j p q nij e1 e2 ((inx p (List.mem_of_getElem? e1)).trans (inx q (List.mem_of_getElem? e2)).symm)⟩
theorem Tm.nn {n : Int} {ps : List Pi} {d : Int → Int → Int} (T : Tm n ps d) {s t : Int} (a : 0 ≤ s) (b : s < n) (c : 0 ≤ t) (e : t < n) : 0 ≤ d s t := by
  by_cases h : s = t
  · subst h; rw [T.zero]; exact Int.le_refl 0
  · have := T.pos s t a b c e h; omega
end Rw

namespace Rw
open PySem PySem.Spec PyProof.Rows L2
def Pi.dat (p : Pi) : PyData := pipeD p.x p.y p.l p.na p.fl
structure Pi.ok (n : Int) (p : Pi) : Prop where
  x0 : 0 ≤ p.x
  x1 : p.x ≤ n - 1
  y0 : 0 ≤ p.y
  y1 : p.y ≤ n - 1
  xy : p.x < p.y
  fit : Fit p.l p.na p.fl
theorem ins_perm {α : Type} (xs : List α) (k : Nat) (y : α) : (xs.take k ++ [y] ++ xs.drop k).Perm (y :: xs) := by
  rw [List.append_assoc]
  refine List.perm_middle.trans ?_
  show (y :: (xs.take k ++ xs.drop k)).Perm (y :: xs)
  rw [List.take_append_drop]
theorem ins_sum {α : Type} (f : α → Nat) (xs : List α) (k : Nat) (y : α) : ((xs.take k ++ [y] ++ xs.drop k).map f).sum = f y + (xs.map f).sum := by
  have e : (xs.map f).sum = ((xs.take k).map f).sum + ((xs.drop k).map f).sum := by
    rw [← List.sum_append, ← List.map_append, List.take_append_drop]
  rw [List.map_append, List.map_append, List.sum_append, List.sum_append, e]
  simp only [List.map_cons, List.map_nil, List.sum_cons, List.sum_nil]
  omega
theorem start_succ (i : Nat) : (start (i + 1)).Perm ((i : Int) :: start i) := by
  unfold start
  rw [List.range_succ, List.map_append]
  exact List.perm_append_comm
theorem start_mem {n : Nat} {v : Int} : v ∈ start n ↔ 0 ≤ v ∧ v < n := by
  unfold start
  rw [List.mem_map]
  constructor
  · rintro ⟨a, ha, rfl⟩
    have := List.mem_range.mp ha
    exact ⟨Int.natCast_nonneg a, Int.ofNat_lt.mpr this⟩
  · rintro ⟨h0, h1⟩
    exact ⟨v.toNat, List.mem_range.mpr (by omega), by show ((v.toNat : Nat) : Int) = v; omega⟩
theorem start_nodup (n : Nat) : (start n).Nodup := by
  unfold start
  exact List.Pairwise.map _ (fun a b h q => h (Int.ofNat.inj q)) List.nodup_range
theorem perm2 {a b : Int} {ns : List Int} (h : ns.Perm [a, b]) : ns = [a, b] ∨ ns = [b, a] := by
  have hl : ns.length = 2 := h.length_eq
  match ns, hl with
  | [u, v], _ =>
    have hu : u = a ∨ u = b := by simpa using h.mem_iff.mp (List.mem_cons_self (a := u) (l := [v]))
    rcases hu with rfl | rfl
    · have := (List.perm_cons u).mp h
      have e := List.perm_singleton.mp this
      left; rw [e]
    · have h2 : [u, v].Perm [u, a] := h.trans (List.Perm.swap u a [])
      have := (List.perm_cons u).mp h2
      have e := List.perm_singleton.mp this
      right; rw [e]
end Rw

namespace Rw
open PySem PySem.Spec PyProof.Rows L2
/-! ### enumerate(t) of a tuple -/
theorem enumNew {v : Value} {o : Obj} {G : Heap → Prop} (B : Begins v o G) : Meets (Builtin.«enumerate.__new__» ⟨[.type "enumerate", v], []⟩) (fun _ R s => G s.heap ∧ R (.ok (.ret (.ref (s.heap.push o).objs.size)))
    { s with heap := (s.heap.push o).push { cls := .type "enumerate", data := .fields #[.none, .bool false, .ref s.heap.objs.size, rawInt 0, .none, .none] } }) :=
  .of_wp fun prog w A R s h => by
    obtain ⟨hp, g, d, tk, os⟩ := s
    obtain ⟨gh, rest⟩ := h
    have sub0 := sub_enumerate
    have it1 : ∀ {A' : Around} {E : Value → Shared → Prop} {Q : Value → Shared → Prop}, Q (.ref hp.objs.size) ⟨hp.push o, g, d, tk, os⟩ → wpAny (model prog w) A' (pyIter v) Q E ⟨hp, g, d, tk, os⟩ := fun q => B.iter prog w _ _ ⟨hp, g, d, tk, os⟩ _ gh q
    wp_walk using it1
    refine wpAny_stack_any (fun z => wpAny_pure ?_)
    split
    · rename_i cc _ _ _ _ _
      cases (cc == Value.type "enumerate") <;> (wp_walk using it1; exact ⟨_, rfl, rest⟩)
    · wp_walk using it1
      exact ⟨_, rfl, rest⟩
theorem enumCall {prog : Program} {w : World} {A : Around} {E : Value → Shared → Prop} {s : Shared} {v : Value} {o : Obj} {G : Heap → Prop} {Q : Value → Shared → Prop} (B : Begins v o G) (hg : G s.heap)
    (h : ∀ h', IsEnum h' (s.heap.objs.size + 1) s.heap.objs.size 0 .none → h'.get? s.heap.objs.size = some o → h'.objs.size = s.heap.objs.size + 2 → (∀ b o, s.heap.get? b = some o → h'.get? b = some o) → Q (.ref (s.heap.objs.size + 1)) { s with heap := h' }) :
    wpAny (model prog w) A (call (.type "enumerate") [v]) Q E s := by
  refine callType_new F.called_enumerate (by decide) (F.typeCall_enumerate_1 _) (F.newCall_enumerate_1 _) (fun obj => F.args_object_init_2 obj _) F.entry_enumerate_new (enumNew B) ⟨hg, ?_⟩
  have z : (s.heap.push o).objs.size = s.heap.objs.size + 1 := Heap.size_push ..
  show _ ∧ _
  rw [z]
  have e : IsEnum ((s.heap.push o).push { cls := .type "enumerate", data := .fields #[.none, .bool false, .ref s.heap.objs.size, rawInt 0, .none, .none] }) (s.heap.objs.size + 1) s.heap.objs.size 0 .none := by
    have y := Heap.get?_push_size (s.heap.push o) (o := { cls := .type "enumerate", data := .fields #[.none, .bool false, .ref s.heap.objs.size, rawInt 0, .none, .none] }) rfl
    rw [z] at y
    exact y
  exact ⟨⟨_, e, rfl⟩, h _ e (Heap.get?_push_of_some _ (Heap.get?_push_size _ B.free)) (by rw [Heap.size_push, z]) (fun b o x => Heap.get?_push_of_some _ (Heap.get?_push_of_some _ x))⟩
/-- the tuple at a, each item in a new pair -/
def IteT (K : PySem.W.Frag) (a : Addr) : It :=
  ⟨fun i H => ∃ (xs : List V) (x : V), SqT K H a xs ∧ xs[i]? = some x, fun i H v H' => ∃ T x, v = .ref T ∧ H T = none ∧ H' = upd H T (.tup [.int (i : Nat), x]) ∧ ∀ xs, SqT K H a xs → xs[i]? = some x, fun i H => ∃ xs : List V, SqT K H a xs ∧ xs.length ≤ i⟩
theorem turn_enumT {P : Program} {w : World} {K : PySem.W.Frag} {elts : List Expr} {kk : Nat} {tpos : Pos} (a e it : Addr) :
    Turn P w K (.Tuple elts kk tpos) (IteT K a) [e, it] e (fun i h => (∃ old, IsEnum h e it ((i : Nat) : Int) old) ∧ h.IsTupleIter it a i ∧ e ≠ it ∧ a ≠ it ∧ a ≠ e) where
  mem := by simp
  obj := fun i h st b hb => by
    obtain ⟨⟨old, he⟩, ⟨o, ho, oc, od⟩, _⟩ := st
    rcases (show b = e ∨ b = it by simpa using hb) with rfl | rfl
    · exact ⟨_, he, fun v q => nomatch q⟩
    · exact ⟨o, ho, fun v q => by rw [od] at q; cases q⟩
  keep := fun i h h' st k => let ⟨⟨old, he⟩, hi, r⟩ := st; ⟨⟨old, k e (by simp) _ he⟩, hi.at fun o q => k it (by simp) o q, r⟩
  item := by
    intro X hP hw hK hc i pins s σ H E I hf st hg
    subst hP hw hK
    obtain ⟨⟨old, he⟩, hit, nei, nai, nae⟩ := st
    obtain ⟨xs, x, sq, gx⟩ := hg
    obtain ⟨its, rv, tp, _⟩ := I.tuple sq
    obtain ⟨u, gu, ru⟩ := rv.get gx
    have eb : e < s.heap.objs.size := Heap.lt_size he
    have ib : it < s.heap.objs.size := by obtain ⟨_, q, _⟩ := hit; exact Heap.lt_size q
    have ub : i < its.toArray.size := by simpa using (List.getElem?_eq_some_iff.mp gu).1
    refine wpAny_pyNext_enum_itemD (Draws.tuple (A := X.A.in1) (I.ok.hd hc) it a nai its.toArray) he ⟨hit, tp⟩ ub nei (by simp [nei, nae.symm]) (fun y h' tk gy ho st' hT hsz hk => ?_)
    have ey : y = u := by
      have z : its[i]? = some y := by simpa using gy
      rw [gu] at z; cases z; rfl
    subst ey
    refine ⟨_, rfl, wpAny_letOwnedTupleGo_enum (s := { s with heap := h', toks := tk + 1 }) ho fun h2 he2 sb => ?_⟩
    have hT2 : h2.get? s.heap.objs.size = some { cls := .type "tuple", data := .seq #[.int i tk, y] } := (sb.2 _ (Nat.ne_of_gt eb)).trans hT
    have ob : ObjOk X.prog X.w (upd H s.heap.objs.size (.tup [.int (i : Nat), x])) h2 s.heap.objs.size (.tup [.int (i : Nat), x]) := ⟨by show 2 ≤ sizeLine; decide, [.int i tk, y], .cons ⟨_, rfl⟩ (.cons ru .nil), ⟨_, hT2, rfl, _, rfl⟩⟩
    have J : Inv X pins σ (upd H s.heap.objs.size (.tup [.int (i : Nat), x])) { s with heap := h2, toks := tk + 1 } :=
      I.turnedNew (ch := [e, it]) (fun b q hb z => (sb.2 b (fun w => hb (by simp [w]))).trans (hk b q (fun w => hb (by simp [w])) (fun w => hb (by simp [w])) z)) hf (Nat.le_refl _) ob
    refine ⟨.ref s.heap.objs.size, _, J, rfl, ⟨_, x, rfl, I.hok.fresh (Nat.le_refl _), rfl, fun ys hy => by rw [I.tuple_inj hy sq]; exact gx⟩, ⟨⟨y, ?_⟩, st'.1.at fun o q => (sb.2 it nei.symm).trans q, nei, nai, nae⟩, fun b hb => ?_⟩
    · rw [show ((i + 1 : Nat) : Int) = (i : Int) + 1 by omega]; exact he2
    · have b1 : b < s.heap.objs.size := by
        rcases (show b = e ∨ b = it by simpa using hb) with rfl | rfl
        · exact eb
        · exact ib
      rw [upd_ne (Nat.ne_of_lt b1)]
      exact (hf b hb).1
  done := by
    intro X hP hw hK hc i pins s σ H E I hf st hg
    subst hP hw hK
    obtain ⟨⟨old, he⟩, hit, nei, nai, nae⟩ := st
    obtain ⟨xs, sq, lx⟩ := hg
    obtain ⟨its, rv, tp, _⟩ := I.tuple sq
    obtain ⟨f0, f1, f2, f3, f4, f5⟩ := hf it (by simp)
    have ln := rv.length
    have D := Draws.tuple (prog := X.prog) (w := X.w) (A := X.A.in1) (I.ok.hd hc) it a nai its.toArray
    unfold pyNext
    refine wpAny_bind (wpAny_attempt (wpAny_callSpecial?_slot (name := Str.ofString "__next__") (s := s) (⟨_, he, rfl⟩ : s.TypeIs (.ref e) "enumerate") F.slot_enumerate_next (wpAny_call_entry F.slot_enumerate_next ⟨_, he, rfl⟩ F.entry_enumerate_next ?_ (F.args_enumerate_next_1 _))))
    show wpAny _ _ (field (.ref e) 2 >>= _) _ _ _
    refine wpAny_bind (wpAny_field he rfl (x := .ref it) rfl (wpAny_bind (wpAny_nextOf_tuple_end (I.ok.hd hc) hit tp (by simp; omega) fun h' x eb ⟨o, ho, oc⟩ => ?_)))
    refine wpAny_bind (wpAny_isInstance (T := "StopIteration") (b := true) ⟨o, ho, oc⟩ isSubtype_stop (wpAny_pure ⟨rfl, ?_⟩))
    exact I.turned (t' := s.toks) (fun b o hb q => eb b o hb q) f0 f1 f3 f4 f5
  self := fun A i s Q E st h => let ⟨⟨_, he⟩, _⟩ := st; wpAny_pyIter_enum he h
def iEnumT (K : PySem.W.Frag) (ta : TA) : TI := fun σ H R => ta σ H fun vs H1 => ∃ a xs, vs = [.ref a] ∧ SqT K H1 a xs ∧ R (IteT K a) H1
theorem pi_enumT {X : Cx} {e : Expr} {ta : TA} {p pos tpos : Pos} {elts : List Expr} {kk : Nat} (hg : Gl X "enumerate") (hm : X.mg "enumerate" = none) (ha : PA X [e] ta) (hs : starEach [e] X.env = [(false, eval e X.env)] := by rfl) :
    PI X (.Tuple elts kk tpos) (.Call (.Name "enumerate" p) [e] [] pos) (iEnumT X.K ta) := by
  refine ⟨fun pins s σ H R I h => Call_ (ld_blt I hg hm boot_enumerate (PyProof.Rows.callWith_type1 (thn (ha.run pos pins s σ H _ I h) fun us s1 ⟨vs, H1, I1, r1, q1⟩ => ?_) hs rfl))⟩
  obtain ⟨a, xs, rfl, sq, q⟩ := q1
  cases r1 with
  | cons r rr =>
    cases rr
    cases r
    obtain ⟨its, rv, tp, _⟩ := I1.tuple sq
    have al : a < s1.heap.objs.size := by obtain ⟨_, z, _⟩ := (id tp : Heap.IsTuple _ _ _); exact Heap.lt_size z
    refine enumCall (begins_tuple a its.toArray) tp (fun h' he hit hsz hk => wpAny_pyIter_enum he ?_)
    refine ⟨s1.heap.objs.size + 1, [s1.heap.objs.size + 1, s1.heap.objs.size], _, _, H1, rfl, I1.kept (t' := s1.toks) hk, turn_enumT a (s1.heap.objs.size + 1) s1.heap.objs.size, ⟨⟨.none, he⟩, ⟨_, hit, rfl, rfl⟩, Nat.succ_ne_self _, Nat.ne_of_lt al, Nat.ne_of_lt (Nat.lt_succ_of_lt al)⟩, fun b hb => ?_, q⟩
    have le : s1.heap.objs.size ≤ b := by
      rcases (show b = s1.heap.objs.size + 1 ∨ b = s1.heap.objs.size by simpa using hb) with z | z <;> rw [z]
      · exact Nat.le_add_right _ _
      · exact Nat.le_refl _
    exact I1.fpOk le (I1.hok.fresh le)
end Rw

namespace Rw
open PySem PySem.Spec PyProof.Rows L2
/-! ### min of a list of tuples of ints -/
def tupI (ns : List Int) : PyData := .tuple (ns.map .int)
def minL (ns : List Int) (nss : List (List Int)) : List Int := nss.foldl (fun a y => if PySem.W.listLt y a = true then y else a) ns
theorem tupI_toD (ns : List Int) : tupI ns = PySem.W.Datum.toD (⟨ns⟩ : PySem.W.Tup Int) := by
  show PyData.tuple (ns.map .int) = PyData.tuple (ns.map PySem.W.Datum.toD)
  rfl
theorem minL_fold (ns : List Int) : ∀ nss : List (List Int), (nss.map fun x => (⟨x⟩ : PySem.W.Tup Int)).foldl (fun a y => if PySem.W.listLt y.items a.items = true then y else a) ⟨ns⟩ = (⟨minL ns nss⟩ : PySem.W.Tup Int) := by
  intro nss
  unfold minL
  induction nss generalizing ns with
  | nil => rfl
  | cons y r ih =>
    rw [List.map_cons, List.foldl_cons, List.foldl_cons]
    by_cases h : PySem.W.listLt y ns = true
    · rw [if_pos h, if_pos h]; exact ih y
    · rw [if_neg h, if_neg h]; exact ih ns
theorem minD_minL (ns : List Int) (nss : List (List Int)) : PySem.W.minD (tupI ns) (nss.map tupI) = tupI (minL ns nss) := by
  have e : nss.map tupI = (nss.map fun x => (⟨x⟩ : PySem.W.Tup Int)).map PySem.W.Datum.toD := by
    rw [List.map_map]; exact List.map_congr_left fun x _ => tupI_toD x
  rw [tupI_toD, e, PySem.W.minD_map, tupI_toD]
  exact congrArg PySem.W.Datum.toD (minL_fold ns nss)
theorem minL_mem (ns : List Int) : ∀ nss : List (List Int), minL ns nss ∈ ns :: nss := by
  intro nss
  unfold minL
  induction nss generalizing ns with
  | nil => exact List.mem_cons_self
  | cons y r ih =>
    rw [List.foldl_cons]
    by_cases h : PySem.W.listLt y ns = true
    · rw [if_pos h]; exact List.mem_cons_of_mem _ (ih y)
    · rw [if_neg h]
      rcases List.mem_cons.mp (ih ns) with e | e
      · rw [e]; exact List.mem_cons_self
      · exact List.mem_cons_of_mem _ (List.mem_cons_of_mem _ e)
theorem lt_head {a b : Int} {x y : List Int} : (PySem.W.listLt (a :: x) (b :: y) = true → a ≤ b) ∧ (¬ PySem.W.listLt (a :: x) (b :: y) = true → b ≤ a) := by
  have u : PySem.W.listLt (a :: x) (b :: y) = if a = b then PySem.W.listLt x y else PySem.W.DatumOrd.lt a b := rfl
  have v : PySem.W.DatumOrd.lt a b = decide (a < b) := rfl
  rw [u, v]
  by_cases h : a = b
  · rw [if_pos h]; exact ⟨fun _ => by omega, fun _ => by omega⟩
  · rw [if_neg h]; exact ⟨fun z => by have := of_decide_eq_true z; omega, fun z => by have := of_decide_eq_false (Bool.eq_false_iff.mpr z); omega⟩
theorem minL_head : ∀ (nss : List (List Int)) (ns : List Int), (∀ y ∈ ns :: nss, y ≠ []) → ∀ y ∈ ns :: nss, (minL ns nss).headD 0 ≤ y.headD 0 := by
  intro nss
  unfold minL
  induction nss with
  | nil => intro ns _ y hy; rw [List.mem_singleton.mp hy]; exact Int.le_refl _
  | cons z r ih =>
    intro ns hn y hy
    rw [List.foldl_cons]
    have n1 := hn ns List.mem_cons_self
    have n2 := hn z (List.mem_cons_of_mem _ List.mem_cons_self)
    have hr : ∀ q ∈ r, q ≠ [] := fun q m => hn q (List.mem_cons_of_mem _ (List.mem_cons_of_mem _ m))
    obtain ⟨a, x, rfl⟩ := List.exists_cons_of_ne_nil n1
    obtain ⟨b, w, rfl⟩ := List.exists_cons_of_ne_nil n2
    by_cases h : PySem.W.listLt (b :: w) (a :: x) = true
    · rw [if_pos h]
      have k := ih (b :: w) (fun q m => (List.mem_cons.mp m).elim (fun e => by rw [e]; exact n2) (hr q))
      rcases List.mem_cons.mp hy with rfl | hy
      · exact Int.le_trans (k _ List.mem_cons_self) (lt_head.1 h)
      · exact k y hy
    · rw [if_neg h]
      have k := ih (a :: x) (fun q m => (List.mem_cons.mp m).elim (fun e => by rw [e]; exact n1) (hr q))
      rcases List.mem_cons.mp hy with rfl | hy
      · exact k _ List.mem_cons_self
      · rcases List.mem_cons.mp hy with rfl | hy
        · exact Int.le_trans (k _ List.mem_cons_self) (lt_head.2 h)
        · exact k y (List.mem_cons_of_mem _ hy)
theorem tupI_lay : ∀ ns : List Int, PyData.canLayAll0 (ns.map .int) = true
  | [] => by simp [PyData.canLayAll0]
  | n :: ns => by rw [List.map_cons]; simp only [PyData.canLayAll0, PyData.canLay0, tupI_lay ns, Bool.and_true]
theorem tupI_depths : ∀ ns : List Int, PyData.depthAll (ns.map .int) = 0
  | [] => by simp [PyData.depthAll]
  | n :: ns => by rw [List.map_cons]; simp [PyData.depthAll, PyData.depth, tupI_depths ns]
theorem tupI_depth : ∀ nss : List (List Int), PyData.depthAll (nss.map tupI) ≤ 1
  | [] => by simp [PyData.depthAll]
  | n :: ns => by
    have := tupI_depth ns
    rw [List.map_cons]
    show max (PyData.depth (.tuple (n.map .int))) (PyData.depthAll (ns.map tupI)) ≤ 1
    have e : PyData.depth (.tuple (n.map .int)) ≤ 1 := by simp [PyData.depth, tupI_depths n]
    omega
theorem tupI_alike (nss : List (List Int)) : PySem.W.AlikeAll (nss.map tupI) := by
  refine ⟨fun x hx y hy => ?_, fun x hx e => ?_⟩
  · obtain ⟨a, _, rfl⟩ := List.mem_map.mp hx
    obtain ⟨b, _, rfl⟩ := List.mem_map.mp hy
    rw [tupI_toD, tupI_toD]
    exact PySem.W.DatumOrd.alike _ _
  · obtain ⟨a, _, rfl⟩ := List.mem_map.mp hx
    cases e
def rMinT (K : PySem.W.Frag) : List V → Hp → VK → Prop := fun vs H Q => ∃ (a : Addr) (xs : List V) (ns : List Int) (nss : List (List Int)), vs = [.ref a] ∧ SqL K H a xs ∧ DpAll K H xs ((ns :: nss).map tupI) ∧
  ∀ (i : Nat) (v : V), xs[i]? = some v → (ns :: nss)[i]? = some (minL ns nss) → Q v H
theorem tupI_inj {a b : List Int} (h : tupI a = tupI b) : a = b := by
  have h2 : a.map PyData.int = b.map PyData.int := PyData.tuple.inj h
  have f : ∀ l : List Int, (l.map PyData.int).map (fun d => match d with | .int i => i | _ => 0) = l := fun l => by
    rw [List.map_map]; exact (List.map_congr_left fun _ _ => rfl).trans (List.map_id l)
  rw [← f a, ← f b, h2]
theorem reads_all_at {h : Heap} : ∀ {vs : List Value} {xs : List PyData} {as : List Addr}, ReadsAll h vs xs as → ∀ (i : Nat) (v : Value), vs[i]? = some v → ∃ d bs, xs[i]? = some d ∧ Reads h v d bs
  | _, _, _, .nil, i, v, e => by simp at e
  | _, _, _, .cons r rs, 0, v, e => by simp at e; subst e; exact ⟨_, _, rfl, r⟩
  | _, _, _, .cons r rs, i + 1, v, e => by
    obtain ⟨d, bs, h1, h2⟩ := reads_all_at rs i v (by simpa using e)
    exact ⟨d, bs, by simpa using h1, h2⟩
theorem vals_at : ∀ {xs : List V} {us : List Value}, Vals xs us → ∀ (i : Nat) (u : Value), us[i]? = some u → ∃ x, xs[i]? = some x ∧ RelV x u
  | _, _, .nil, i, u, e => by simp at e
  | _, _, .cons r rs, 0, u, e => by simp at e; subst e; exact ⟨_, rfl, r⟩
  | _, _, .cons r rs, i + 1, u, e => by
    obtain ⟨x, h1, h2⟩ := vals_at rs i u (by simpa using e)
    exact ⟨x, by simpa using h1, h2⟩
theorem cr_minT {X : Cx} (hc : X.calm = true) (hu : X.A.units + 10 < cLine) : CallR X (.builtin "min") (rMinT X.K) := by
  intro pins s σ H vs us Q I r h
  obtain ⟨a, xs, ns, nss, rfl, sq, dp, q⟩ := h
  obtain ⟨its, rv, hl, _⟩ := I.list sq
  rw [Vals.ref1 r]
  obtain ⟨as, rd⟩ := Dp.readsAll I _ _ its dp rv
  have dd := tupI_depth (ns :: nss)
  have al := tupI_alike (ns :: nss)
  rw [List.map_cons] at rd dd al
  refine PySem.W.min_list_data (I.ok.hd hc) hl.isList (x := tupI ns) (xs := nss.map tupI) (as := as) rd al (by omega) (fun i v h' tk bs gi rv' kp => ?_)
  rw [minD_minL] at rv'
  have gi' : its[i]? = some v := by simpa using gi
  obtain ⟨x, gx, rx⟩ := vals_at rv i v gi'
  obtain ⟨d, cs, gd, rdd⟩ := reads_all_at rd i v gi'
  have rdd' : Reads h' v d cs := PySem.W.reads_keeps kp rdd
  obtain ⟨m, gm, em⟩ : ∃ m, (ns :: nss)[i]? = some m ∧ d = tupI m := by
    have z : ((ns :: nss).map tupI)[i]? = some d := by rw [List.map_cons]; exact gd
    rw [List.getElem?_map] at z
    obtain ⟨m, z1, z2⟩ := Option.map_eq_some_iff.mp z
    exact ⟨m, z1, z2.symm⟩
  have e : tupI (minL ns nss) = d := (rv'.unique _ _ rdd').1
  rw [em] at e
  have e2 := tupI_inj e
  exact ⟨x, H, I.kept (t' := tk) kp, rx, q i x gx (by rw [gm, e2])⟩
end Rw

namespace Rw
open PySem PySem.Spec PyProof.Rows L2
/-! rules that name the written part by a letter (within comprehensions) -/
section
variable {X : Cx} {K : PySem.W.Frag}
theorem ix_tupK (h : X.K = K) : IxR X (rIxT K) := by subst h; exact ix_tup
theorem sl_tupK (h : X.K = K) : SlR X (rSlT K) := by subst h; exact sl_tup
theorem sl_listK (h : X.K = K) : SlR X (rSlL K) := by subst h; exact sl_list
theorem pg_tupK {es : List Expr} {k n : Nat} {t : TGs} {pos : Pos} (h : X.K = K) (hc : X.calm = true) (hg : PGs X es t) (hn : (assignEach es X.env).length = n := by rfl) (hst : (assignEach es X.env).findIdx? (·.1) = none := by rfl) : PG X (.Tuple es k pos) (gTup K n t) := by
  subst h; exact pg_tup hc hg hn hst
theorem pi_listK {tg l : Expr} {tl : TE} (h : X.K = K) (hl : PE X l tl) : PI X tg l (iList K tl) := by subst h; exact pi_list hl
theorem pi_tupK {tg l : Expr} {tl : TE} (h : X.K = K) (hl : PE X l tl) : PI X tg l (iTup K tl) := by subst h; exact pi_tup hl
theorem pe_fldK {e : Expr} {f : Str} {ta : TE} {pos : Pos} (h : X.K = K) (he : PE X e ta) (hb : attributeBase e f X.env (eval e X.env) = eval e X.env) : PE X (.Attribute e f pos) (tFld K ta f) := by subst h; exact pe_fld he hb
theorem call_len_seqK (h : X.K = K) : CallR X (.builtin "len") (fun xs H Q => ∃ p ys, xs = [.ref p] ∧ (SqL K H p ys ∨ SqT K H p ys) ∧ Q (.int ys.length) H) := by subst h; exact call_len_seq
end
end Rw

namespace Rw
open PySem PySem.Spec PyProof.Rows L2
/-! ### {t: v}, the key a tuple -/
def tDispT (trs : List (TE × TE)) : TE := fun σ H Q => ∀ p, H p = none → tPairs trs σ (upd H p (.dT [])) fun ps H2 => H2 p = some (.dT []) ∧ ∃ (b : Addr) (k : List Key) (v : V), ps = [(.ref b, v)] ∧ H2 b = some (.tup (k.map kV)) ∧ Q (.ref p) (upd H2 p (.dT [(k, v)]))
theorem pe_dispT {X : Cx} {pos : Pos} {k v : Expr} {trs : List (TE × TE)} (hu : X.A.units + 1 < cLine) (h : PPs X pos [some k] [v] trs) : PE X (.Dict [some k] [v] pos) (tDispT trs) := by
  refine ⟨fun pins s σ H Q I q => ?_⟩
  have nw := I.hok.fresh (Nat.le_refl s.heap.objs.size)
  have I1 := I.laid (a := s.heap.objs.size) (o := .dT []) (h' := s.heap.push { cls := .type "dict", data := .dict #[] }) (t' := s.toks) (fun _ _ z => Heap.get?_push_of_some _ z) (Nat.le_refl _) (dt_empty s.heap I.big)
  have one : (pairTrees [some k] [v] X.env pos).length = 1 := pairTrees_length [some k] [v] X.env pos rfl rfl
  have ne : pairTrees [some k] [v] X.env pos ≠ [] := fun z => by rw [z] at one; cases one
  rw [arm_eval_Dict, zip_pairTrees [some k] [v] X.env pos rfl rfl, dictDisplay_pairs _ ne (by omega)]
  refine wpAny_bind (wpAny_standAt (wpAny_bind (wpAny_subDictH (knd := tupleKind (mixKind X.prog X.w)) (show X.A.units < cLine by omega) (by omega) (thn (h.run pins _ σ _ _ I1 (q _ nw)) fun ws s2 ⟨ps, H2, I2, rel, e, b, kk, y, eps, eb, q2⟩ => ?_))))
  subst eps
  cases rel with
  | @cons p1 w1 _ ws' hp hr =>
    cases hr
    obtain ⟨wk, wv⟩ := w1
    obtain ⟨rk, rv⟩ := hp
    cases (show wk = Value.ref b from rk)
    obtain ⟨z, hd, xs, rx, dd⟩ := dt_of I2.hok e
    cases rx
    refine ⟨[(kk, b, wv)], ⟨rfl, rfl, key_of I2.hok eb, trivial⟩, dd, fun h' tk dd' hs => wpAny_pure ⟨.ref s.heap.objs.size, _, ?_, rfl, q2⟩⟩
    obtain ⟨o, es, ep, ho, h2, h3, h4, _, h5⟩ := dd'
    have ebN : b ≠ s.heap.objs.size := fun c => by
      rw [c] at eb
      rw [eb] at e
      cases e
    refine d_write I2 (by rw [e]; exact True.intro) hs ⟨o, ho⟩ ⟨by show 1 ≤ sizeLine; decide, hd, [(kk, b, wv)], .cons ⟨rfl, by rw [upd_ne ebN]; exact eb, rv⟩ .nil, o, es, ep, ho, h2, h3, h4, h5⟩
end Rw

namespace Rw
open PySem PySem.Spec PyProof.Rows L2
/-! ### sorted of a list of tuples of ints, of any lengths -/
abbrev VI := V × List Int
def encVI (b : VI) : PyData := tupI b.2
def leI (a b : List Int) : Bool := !decide (b < a)
theorem dataLe_VI : PySem.W.dataLe false encVI = fun a b => leI a.2 b.2 := by
  funext a b
  rw [PySem.W.dataLe_eq]
  show (!PySem.W.dataLt (.tuple (b.2.map .int)) (.tuple (a.2.map .int))) = _
  rw [PySem.W.dataLt_tuple]
  unfold leI
  exact congrArg _ (PySem.W.dataLt_ints b.2 a.2)
def sortVI (bs : List VI) : List VI := bs.mergeSort (fun a b => leI a.2 b.2)
theorem each_vals : ∀ {bs : List VI} {us : List Value}, Vals (bs.map (·.1)) us → PySem.W.EachIs (fun u b => RelV b.1 u) us bs
  | [], _, h => by cases h; exact .nil
  | b :: bs, _, h => by
    cases h with
    | cons r t => exact .cons r (each_vals t)
theorem vals_each : ∀ {bs : List VI} {us : List Value}, PySem.W.EachIs (fun u b => RelV b.1 u) us bs → Vals (bs.map (·.1)) us
  | _, _, .nil => .nil
  | _, _, .cons r t => .cons r (vals_each t)
theorem each_reads {h : Heap} : ∀ {bs : List VI} {us : List Value} {as : List Addr}, ReadsAll h us (bs.map encVI) as → PySem.W.EachIs (fun u b => ∃ as, Reads h u (encVI b) as) us bs
  | [], _, _, h => by cases h; exact .nil
  | b :: bs, _, _, h => by
    cases h with
    | cons r t => exact .cons ⟨_, r⟩ (each_reads t)
def rSortVI (K : PySem.W.Frag) : List V → Hp → VK → Prop := fun vs H Q => ∃ (a : Addr) (bs : List VI), vs = [.ref a] ∧ SqL K H a (bs.map (·.1)) ∧ DpAll K H (bs.map (·.1)) (bs.map encVI) ∧ (∀ b ∈ bs, b.2 ≠ []) ∧ bs.length ≤ 1000 ∧
  ∀ p, H p = none → Q (.ref p) (upd H p (.lst ((sortVI bs).map (·.1))))
theorem cr_sortVI {X : Cx} (hu : X.A.units + 10 < cLine) : CallR X (.builtin "sorted") (rSortVI X.K) := by
  intro pins s σ H vs us Q I r h
  obtain ⟨a, bs, rfl, sq, dp, hn, hl, q⟩ := h
  obtain ⟨its, rv, isl, _⟩ := I.list sq
  rw [Vals.ref1 r]
  obtain ⟨as, rd⟩ := Dp.readsAll I _ _ its dp rv
  refine PySem.W.sorted_data (bs := bs) (enc := encVI) (R := fun u b => RelV b.1 u) isl.isList (each_vals rv) (each_reads rd) (PySem.W.AllAlike.of fun b b' => ?_) (.inl fun d hd => ?_) (Nat.le_trans hl (small1000 (by omega))) (fun b hb => ?_) (fun out lo ho => ?_)
  · exact (tupI_alike [b.2, b'.2]).1 _ List.mem_cons_self _ (List.mem_cons_of_mem _ List.mem_cons_self)
  · obtain ⟨b, hb, rfl⟩ := List.mem_map.mp hd
    obtain ⟨x, xs, e⟩ := List.exists_cons_of_ne_nil (hn b hb)
    exact ⟨.int x, xs.map .int, by unfold encVI tupI; rw [e]; rfl⟩
  · have := tupI_depth [b.2]
    have e : PyData.depthAll ([b.2].map tupI) = max (PyData.depth (encVI b)) 0 := rfl
    omega
  · rw [dataLe_VI] at ho
    obtain ⟨ep, he⟩ := PyProof.Rows.sortedAll_at s.heap its out.toArray
    have hv : Vals ((sortVI bs).map (·.1)) out := vals_each ho
    have hlen : ((sortVI bs).map (·.1)).length ≤ sizeLine := by rw [hv.length, lo]; exact Nat.le_trans hl (small1000 (by omega))
    exact ⟨.ref _, upd H (s.heap.objs.size + 1) (.lst ((sortVI bs).map (·.1))), I.laid (t' := s.toks) (fun _ _ => PyProof.Rows.sortedAll_old) (Nat.le_succ _) ⟨hlen, out, ep, hv, by simpa using he⟩, rfl, q _ (I.hok.fresh (Nat.le_succ _))⟩
end Rw

namespace Rw
open PySem PySem.Spec PyProof.Rows L2
section
variable {X : Cx}
/-! new lists stand elsewhere than the modules' table -/
def tLstN (t : TA) : TE := fun σ H Q => t σ H fun xs H1 => xs.length ≤ sizeLine ∧ ∀ p, H1 p = none → p ≠ sysModules → Q (.ref p) (upd H1 p (.lst xs))
theorem pe_lstN {es : List Expr} {t : TA} {pos : Pos} (h : PA X es t) : PE X (.List es pos) (tLstN t) :=
  ⟨fun pins s σ H Q I hq => wpAny_List_spliced (thn (h.run pos pins s σ H _ I hq) fun us s1 ⟨xs, H1, I1, r, z, q⟩ => ⟨by rw [← r.length]; exact z,
    ⟨.ref s1.heap.objs.size, _, I1.laid (t' := s1.toks) (fun b u e => Heap.get?_push_of_some _ e) (Nat.le_refl _) (show ObjOk X.prog X.w _ _ _ (.lst xs) from ⟨z, us, 0, r, Heap.get?_push_size _ rfl⟩), rfl, q _ (I1.hok.fresh (Nat.le_refl _)) (Nat.ne_of_gt I1.big)⟩⟩)⟩
end
end Rw

namespace Rw
open PySem PySem.Spec PyProof.Rows L2
mutual
theorem Dt.dp {K : PySem.W.Frag} {av : List Addr} {H : Hp} : ∀ (d : PyData) (v : V), Dt av H v d → d.canLay0 = true → Dp K H v d
  | _, _, .non, _ => .non
  | _, _, .bl b, _ => .bl b
  | _, _, .int i, _ => .int i
  | _, _, .str x, _ => .str x
  | .list ds, _, .lst n e s, h => .lst (SqL.of e) (Dts.dp ds _ s (by simpa only [PyData.canLay0] using h))
  | .tuple ds, _, .tup n e s, h => .tup (SqT.of e) (Dts.dp ds _ s (by simpa only [PyData.canLay0] using h))
  | .dict _, _, .dct n e, h => by simp only [PyData.canLay0] at h; cases h
theorem Dts.dp {K : PySem.W.Frag} {av : List Addr} {H : Hp} : ∀ (ds : List PyData) (vs : List V), Dts av H vs ds → PyData.canLayAll0 ds = true → DpAll K H vs ds
  | [], _, .nil, _ => .nil
  | d :: ds, _, .cons x t, h => by
    simp only [PyData.canLayAll0, Bool.and_eq_true] at h
    exact .cons (Dt.dp d _ x h.1) (Dts.dp ds _ t h.2)
end
theorem lay_prs : ∀ na : List (Int × Int), PyData.canLayAll0 (na.map prD) = true
  | [] => by simp [PyData.canLayAll0]
  | p :: na => by
    have e : prD p = .tuple [.int p.1, .int p.2] := rfl
    rw [List.map_cons, e]
    simp only [PyData.canLayAll0, PyData.canLay0, lay_prs na, Bool.and_true]
theorem lay_pis : ∀ ps : List Pi, PyData.canLayAll0 (ps.map Pi.dat) = true
  | [] => by simp [PyData.canLayAll0]
  | p :: ps => by
    have e : p.dat = .tuple [.int p.x, .int p.y, .int p.l, .tuple (p.na.map prD), .tuple (p.fl.map prD)] := rfl
    rw [List.map_cons, e]
    simp only [PyData.canLayAll0, PyData.canLay0, lay_prs, lay_pis ps, Bool.and_true]
theorem shaped_of {d : PyData} (h : d.canLay0 = true) (h2 : d.depth ≤ 64) : SeqAt.shaped d = true := by
  unfold SeqAt.shaped
  rw [h, decide_eq_true h2]; rfl
theorem eqv_nil (ds : List PyData) : PyData.eqv (.tuple ds) (.tuple []) = ds.isEmpty := by
  cases ds <;> rfl
/-! ### a house as it is handed about: its two parts -/
theorem house_parts {av : List Addr} {H : Hp} {h : V} {n : Int} {ps : List PyData} (x : Dt av H h (houseD n ps)) :
    ∃ (ah ap : Addr) (xp : List V), h = .ref ah ∧ ah ∉ av ∧ H ah = some (.tup [.int n, .ref ap]) ∧ ap ∉ av ∧ H ap = some (.tup xp) ∧ Dts av H xp ps := by
  cases x with
  | tup na ea da =>
    cases da with
    | cons d1 da =>
      cases d1
      cases da with
      | cons d2 da =>
        cases da
        cases d2 with
        | tup nb eb db => exact ⟨_, _, _, rfl, na, ea, nb, eb, db⟩
/-! the pipe at a place -/
theorem pi_at {av : List Addr} {H : Hp} {xp : List V} {ps : List Pi} (hs : Dts av H xp (ps.map Pi.dat)) {i : Int} (h0 : 0 ≤ i) (h1 : i < ps.length) :
    ∃ (p : Pi) (pa T1 T2 : Addr), p ∈ ps ∧ ps[i.toNat]? = some p ∧ atI xp i = some (.ref pa) ∧ H pa = some (.tup [.int p.x, .int p.y, .int p.l, .ref T1, .ref T2]) := by
  have e : ps[i.toNat]? = some (ps[i.toNat]'(by omega)) := List.getElem?_eq_getElem (by omega)
  obtain ⟨v, ev, dv⟩ := hs.get i.toNat (d := (ps[i.toNat]'(by omega)).dat) (by rw [List.getElem?_map, e]; rfl)
  have ep : (ps[i.toNat]'(by omega)).dat = .tuple [.int (ps[i.toNat]'(by omega)).x, .int (ps[i.toNat]'(by omega)).y, .int (ps[i.toNat]'(by omega)).l, .tuple ((ps[i.toNat]'(by omega)).na.map prD), .tuple ((ps[i.toNat]'(by omega)).fl.map prD)] := rfl
  rw [ep] at dv
  cases dv with
  | tup na ea da =>
    cases da with
    | cons d1 da => cases d1; cases da with
      | cons d2 da => cases d2; cases da with
        | cons d3 da => cases d3; cases da with
          | cons d4 da => cases d4 with
            | tup _ _ _ => cases da with
              | cons d5 da => cases d5 with
                | tup _ _ _ =>
                  cases da
                  exact ⟨_, _, _, _, List.getElem_mem _, e, atI_of h0 ev, ea⟩
end Rw

namespace Rw
/-! ### places of a house, their distances -/
def pr (ps : List Pi) (i : Int) : Pi := ps.getD i.toNat default
theorem pr_mem {ps : List Pi} {i : Int} (h0 : 0 ≤ i) (h1 : i < ps.length) : pr ps i ∈ ps ∧ ps[i.toNat]? = some (pr ps i) := by
  have e : ps[i.toNat]? = some (ps[i.toNat]'(by omega)) := List.getElem?_eq_getElem (by omega)
  unfold pr
  rw [List.getD_eq_getElem?_getD, e]
  exact ⟨List.getElem_mem _, rfl⟩
theorem pr_of {ps : List Pi} {j : Nat} {p : Pi} (h : ps[j]? = some p) : pr ps (j : Int) = p := by
  unfold pr
  rw [List.getD_eq_getElem?_getD, show ((j : Int)).toNat = j by omega, h]; rfl
abbrev Pl := List Int
def okP (n : Int) (ps : List Pi) : Pl → Prop
  | [r] => 0 ≤ r ∧ r < n
  | [i, a] => 0 ≤ i ∧ i < ps.length ∧ 1 ≤ a ∧ a ≤ (pr ps i).l - 1
  | _ => False
def ab (a b : Int) : Int := if a < b then b - a else a - b
def dr (ps : List Pi) (d : Int → Int → Int) (s i a : Int) : Int := min (d s (pr ps i).x + a) (d s (pr ps i).y + ((pr ps i).l - a))
def Dp (ps : List Pi) (d : Int → Int → Int) : Pl → Pl → Int
  | [s], [t] => d s t
  | [s], [i, a] => dr ps d s i a
  | [i, a], [s] => dr ps d s i a
  | [i, a], [j, b] => if i = j then ab a b else min (a + dr ps d (pr ps i).x j b) ((pr ps i).l - a + dr ps d (pr ps i).y j b)
  | _, _ => 0
def nm (ps : List Pi) (i a : Int) : Pl := if a = 0 then [(pr ps i).x] else if a = (pr ps i).l then [(pr ps i).y] else [i, a]
def Adj (ps : List Pi) (p q : Pl) : Prop := ∃ i a : Int, 0 ≤ i ∧ i < ps.length ∧ 0 ≤ a ∧ a < (pr ps i).l ∧ ((p = nm ps i a ∧ q = nm ps i (a + 1)) ∨ (q = nm ps i a ∧ p = nm ps i (a + 1)))
theorem Adj.symm {ps : List Pi} {p q : Pl} (h : Adj ps p q) : Adj ps q p := by
  obtain ⟨i, a, h1, h2, h3, h4, h5⟩ := h
  exact ⟨i, a, h1, h2, h3, h4, h5.symm⟩
theorem ok_cases {n : Int} {ps : List Pi} {p : Pl} (h : okP n ps p) : (∃ r, p = [r] ∧ 0 ≤ r ∧ r < n) ∨ ∃ i a, p = [i, a] ∧ 0 ≤ i ∧ i < ps.length ∧ 1 ≤ a ∧ a ≤ (pr ps i).l - 1 := by
  match p, h with
  | [r], h => exact .inl ⟨r, rfl, h⟩
  | [i, a], h => exact .inr ⟨i, a, rfl, h⟩
/-! how a source is seen along a pipe: its foot -/
def foot1 (ps : List Pi) (d : Int → Int → Int) (r i : Int) : Int := if d r (pr ps i).y = d r (pr ps i).x + (pr ps i).l then 0 else (pr ps i).l
def foot (ps : List Pi) (d : Int → Int → Int) : Pl → Int → Int
  | [r], i => foot1 ps d r i
  | [j, b], i => if j = i then b else if d (pr ps j).x (pr ps i).x < d (pr ps j).y (pr ps i).x then foot1 ps d (pr ps j).x i else foot1 ps d (pr ps j).y i
  | _, _ => 0
section
variable {n : Int} {ps : List Pi} {d : Int → Int → Int} (T : Tm n ps d)
include T
theorem Tm.at {i : Int} (h0 : 0 ≤ i) (h1 : i < ps.length) : 0 ≤ (pr ps i).x ∧ (pr ps i).x < n ∧ 0 ≤ (pr ps i).y ∧ (pr ps i).y < n ∧ 1 ≤ (pr ps i).l := T.ok _ (pr_mem h0 h1).1
theorem Tm.stp {i s : Int} (h0 : 0 ≤ i) (h1 : i < ps.length) (s0 : 0 ≤ s) (s1 : s < n) : d s (pr ps i).x = d s (pr ps i).y + (pr ps i).l ∨ d s (pr ps i).y = d s (pr ps i).x + (pr ps i).l := T.step _ (pr_mem h0 h1).1 s s0 s1
theorem Tm.own {i : Int} (h0 : 0 ≤ i) (h1 : i < ps.length) : d (pr ps i).x (pr ps i).y = (pr ps i).l ∧ d (pr ps i).y (pr ps i).x = (pr ps i).l ∧ (pr ps i).x ≠ (pr ps i).y := by
  obtain ⟨a1, a2, a3, a4, a5⟩ := T.at h0 h1
  have e1 := T.stp h0 h1 a1 a2
  have e2 := T.sym (pr ps i).x (pr ps i).y
  have e3 := T.zero (pr ps i).x
  have e4 := T.nn a1 a2 a3 a4
  refine ⟨by omega, by omega, fun z => ?_⟩
  rw [← z] at e1
  omega
theorem Tm.sd {i j : Int} (h0 : 0 ≤ i) (h1 : i < ps.length) (k0 : 0 ≤ j) (k1 : j < ps.length) (ne : j ≠ i) :
    d (pr ps j).x (pr ps i).x - d (pr ps j).y (pr ps i).x = d (pr ps j).x (pr ps i).y - d (pr ps j).y (pr ps i).y :=
  T.side j.toNat i.toNat _ _ (by omega) (pr_mem k0 k1).2 (pr_mem h0 h1).2
theorem foot1_at {i r : Int} (h0 : 0 ≤ i) (h1 : i < ps.length) (r0 : 0 ≤ r) (r1 : r < n) {a : Int} (a0 : 0 ≤ a) (a1 : a ≤ (pr ps i).l) :
    dr ps d r i a = dr ps d r i (foot1 ps d r i) + ab a (foot1 ps d r i) ∧ (foot1 ps d r i = 0 ∨ foot1 ps d r i = (pr ps i).l) := by
  have l1 := (T.at h0 h1).2.2.2.2
  have st := T.stp h0 h1 r0 r1
  unfold dr foot1 ab
  by_cases u : d r (pr ps i).y = d r (pr ps i).x + (pr ps i).l
  · rw [if_pos u]; refine ⟨?_, .inl rfl⟩; split <;> omega
  · rw [if_neg u]; refine ⟨?_, .inr rfl⟩; split <;> omega
theorem dr_0 {i r : Int} (h0 : 0 ≤ i) (h1 : i < ps.length) (r0 : 0 ≤ r) (r1 : r < n) : dr ps d r i 0 = d r (pr ps i).x ∧ dr ps d r i (pr ps i).l = d r (pr ps i).y := by
  have l1 := (T.at h0 h1).2.2.2.2
  have st := T.stp h0 h1 r0 r1
  unfold dr; omega
/-! along a pipe, from a room -/
theorem Dp_room {i r : Int} (h0 : 0 ≤ i) (h1 : i < ps.length) (r0 : 0 ≤ r) (r1 : r < n) (a : Int) : Dp ps d [r] (nm ps i a) = dr ps d r i a := by
  unfold nm
  by_cases e : a = 0
  · rw [if_pos e, e]; exact (dr_0 T h0 h1 r0 r1).1.symm
  · rw [if_neg e]
    by_cases f : a = (pr ps i).l
    · rw [if_pos f, f]; exact (dr_0 T h0 h1 r0 r1).2.symm
    · rw [if_neg f]; rfl
/-! along a pipe, from a place of it -/
theorem Dp_same {i b : Int} (h0 : 0 ≤ i) (h1 : i < ps.length) (b0 : 1 ≤ b) (b1 : b ≤ (pr ps i).l - 1) (a : Int) : Dp ps d [i, b] (nm ps i a) = ab b a := by
  obtain ⟨o1, o2, o3⟩ := T.own h0 h1
  have z1 := T.zero (pr ps i).x
  have z2 := T.zero (pr ps i).y
  unfold nm
  by_cases e : a = 0
  · rw [if_pos e, e]; show dr ps d (pr ps i).x i b = _; unfold dr ab; split <;> omega
  · rw [if_neg e]
    by_cases f : a = (pr ps i).l
    · rw [if_pos f, f]; show dr ps d (pr ps i).y i b = _; unfold dr ab; split <;> omega
    · rw [if_neg f]; show (if i = i then ab b a else _) = _; rw [if_pos rfl]
/-! along a pipe, from a place of another one: as from the room on this side -/
theorem Dp_else {i j b : Int} (h0 : 0 ≤ i) (h1 : i < ps.length) (k0 : 0 ≤ j) (k1 : j < ps.length) (ne : j ≠ i) (b0 : 1 ≤ b) (b1 : b ≤ (pr ps j).l - 1) (a : Int) (a0 : 0 ≤ a) (a1 : a ≤ (pr ps i).l) :
    Dp ps d [j, b] (nm ps i a) = if d (pr ps j).x (pr ps i).x < d (pr ps j).y (pr ps i).x then b + dr ps d (pr ps j).x i a else (pr ps j).l - b + dr ps d (pr ps j).y i a := by
  obtain ⟨x0, x1, y0, y1, l1⟩ := T.at h0 h1
  obtain ⟨u0, u1, v0, v1, m1⟩ := T.at k0 k1
  have sd := T.sd h0 h1 k0 k1 ne
  have s1 := T.stp k0 k1 x0 x1
  have s2 := T.stp k0 k1 y0 y1
  rw [T.sym _ (pr ps j).x, T.sym _ (pr ps j).y] at s1 s2
  have t1 := T.stp h0 h1 u0 u1
  have t2 := T.stp h0 h1 v0 v1
  have main : min (b + dr ps d (pr ps j).x i a) ((pr ps j).l - b + dr ps d (pr ps j).y i a) = if d (pr ps j).x (pr ps i).x < d (pr ps j).y (pr ps i).x then b + dr ps d (pr ps j).x i a else (pr ps j).l - b + dr ps d (pr ps j).y i a := by
    unfold dr
    split <;> omega
  rw [← main]
  unfold nm
  by_cases e : a = 0
  · rw [if_pos e, e, (dr_0 T h0 h1 u0 u1).1, (dr_0 T h0 h1 v0 v1).1]
    show dr ps d (pr ps i).x j b = _
    unfold dr
    rw [T.sym _ (pr ps j).x, T.sym _ (pr ps j).y]
    omega
  · rw [if_neg e]
    by_cases f : a = (pr ps i).l
    · rw [if_pos f, f, (dr_0 T h0 h1 u0 u1).2, (dr_0 T h0 h1 v0 v1).2]
      show dr ps d (pr ps i).y j b = _
      unfold dr
      rw [T.sym _ (pr ps j).x, T.sym _ (pr ps j).y]
      omega
    · rw [if_neg f]
      show (if j = i then ab b a else _) = _
      rw [if_neg ne]
theorem foot_at {s : Pl} (hs : okP n ps s) {i : Int} (h0 : 0 ≤ i) (h1 : i < ps.length) : 0 ≤ foot ps d s i ∧ foot ps d s i ≤ (pr ps i).l ∧ (0 < foot ps d s i → foot ps d s i < (pr ps i).l → s = [i, foot ps d s i]) ∧
    ∀ a, 0 ≤ a → a ≤ (pr ps i).l → Dp ps d s (nm ps i a) = Dp ps d s (nm ps i (foot ps d s i)) + ab a (foot ps d s i) := by
  have l1 := (T.at h0 h1).2.2.2.2
  rcases ok_cases hs with ⟨r, rfl, r0, r1⟩ | ⟨j, b, rfl, k0, k1, b0, b1⟩
  · have f := fun a => foot1_at T (a := a) h0 h1 r0 r1
    have f0 := (f 0 (by omega) (by omega)).2
    show 0 ≤ foot1 ps d r i ∧ foot1 ps d r i ≤ _ ∧ (0 < foot1 ps d r i → foot1 ps d r i < _ → _) ∧ ∀ a, _ → _ → _ = Dp ps d [r] (nm ps i (foot1 ps d r i)) + ab a (foot1 ps d r i)
    refine ⟨by omega, by omega, fun _ _ => by omega, fun a a0 a1 => ?_⟩
    rw [Dp_room T h0 h1 r0 r1, Dp_room T h0 h1 r0 r1]
    exact (f a a0 a1).1
  · by_cases e : j = i
    · subst e
      have ef : foot ps d [j, b] j = b := if_pos rfl
      rw [ef]
      refine ⟨by omega, by omega, fun _ _ => rfl, fun a a0 a1 => ?_⟩
      rw [Dp_same T h0 h1 b0 b1, Dp_same T h0 h1 b0 b1]
      unfold ab
      split <;> split <;> omega
    · obtain ⟨u0, u1, v0, v1, m1⟩ := T.at k0 k1
      by_cases c : d (pr ps j).x (pr ps i).x < d (pr ps j).y (pr ps i).x
      · have ef : foot ps d [j, b] i = foot1 ps d (pr ps j).x i := (if_neg e).trans (if_pos c)
        have f := fun a => foot1_at T (a := a) h0 h1 u0 u1
        have f0 := (f 0 (by omega) (by omega)).2
        rw [ef]
        refine ⟨by omega, by omega, fun _ _ => by omega, fun a a0 a1 => ?_⟩
        rw [Dp_else T h0 h1 k0 k1 e b0 b1 a a0 a1, Dp_else T h0 h1 k0 k1 e b0 b1 _ (by omega) (by omega), if_pos c, if_pos c]
        have := (f a a0 a1).1
        omega
      · have ef : foot ps d [j, b] i = foot1 ps d (pr ps j).y i := (if_neg e).trans (if_neg c)
        have f := fun a => foot1_at T (a := a) h0 h1 v0 v1
        have f0 := (f 0 (by omega) (by omega)).2
        rw [ef]
        refine ⟨by omega, by omega, fun _ _ => by omega, fun a a0 a1 => ?_⟩
        rw [Dp_else T h0 h1 k0 k1 e b0 b1 a a0 a1, Dp_else T h0 h1 k0 k1 e b0 b1 _ (by omega) (by omega), if_neg c, if_neg c]
        have := (f a a0 a1).1
        omega
/-! one step nearer, one step farther -/
theorem Dp_step {s : Pl} (hs : okP n ps s) {p q : Pl} (h : Adj ps p q) : Dp ps d s q = Dp ps d s p + 1 ∨ Dp ps d s p = Dp ps d s q + 1 := by
  obtain ⟨i, a, h0, h1, a0, a1, h⟩ := h
  obtain ⟨_, _, _, f⟩ := foot_at T hs h0 h1
  have e1 := f a a0 (by omega)
  have e2 := f (a + 1) (by omega) (by omega)
  unfold ab at e1 e2
  rcases h with ⟨rfl, rfl⟩ | ⟨rfl, rfl⟩ <;> (split at e1 <;> split at e2 <;> omega)
/-! a door at a room by which one comes nearer -/
theorem foot1_door {r t i : Int} (h0 : 0 ≤ i) (h1 : i < ps.length) (r0 : 0 ≤ r) (r1 : r < n) : Dn ps d r t i.toNat ↔ (((pr ps i).x = t ∧ foot1 ps d r i ≠ 0) ∨ ((pr ps i).y = t ∧ foot1 ps d r i ≠ (pr ps i).l)) := by
  have l1 := (T.at h0 h1).2.2.2.2
  have st := T.stp h0 h1 r0 r1
  constructor
  · rintro ⟨p, e, h⟩
    rw [(pr_mem h0 h1).2] at e
    cases e
    unfold foot1
    rcases h with ⟨e1, e2⟩ | ⟨e1, e2⟩
    · left; refine ⟨e1, ?_⟩; rw [← e1] at e2; rw [if_neg (by omega)]; omega
    · right; refine ⟨e1, ?_⟩; rw [← e1] at e2; rw [if_pos (by omega)]; omega
  · intro h
    refine ⟨_, (pr_mem h0 h1).2, ?_⟩
    unfold foot1 at h
    rcases h with ⟨e1, e2⟩ | ⟨e1, e2⟩
    · left; refine ⟨e1, ?_⟩
      by_cases u : d r (pr ps i).y = d r (pr ps i).x + (pr ps i).l
      · rw [if_pos u] at e2; exact absurd rfl e2
      · rw [← e1]; omega
    · right; refine ⟨e1, ?_⟩
      by_cases u : d r (pr ps i).y = d r (pr ps i).x + (pr ps i).l
      · rw [← e1]; omega
      · rw [if_neg u] at e2; exact absurd rfl e2
/-! a room on the one side of a pipe: its doors are seen from that side's room -/
theorem foot_side {j b t : Int} (k0 : 0 ≤ j) (k1 : j < ps.length) (b0 : 1 ≤ b) (b1 : b ≤ (pr ps j).l - 1) (t0 : 0 ≤ t) (t1 : t < n) :
    ∃ c, (c = (pr ps j).x ∨ c = (pr ps j).y) ∧ 0 ≤ c ∧ c < n ∧
      (∀ i : Int, 0 ≤ i → i < ps.length → ((pr ps i).x = t ∨ (pr ps i).y = t) → i ≠ j → foot ps d [j, b] i = foot1 ps d c i) ∧
      ((pr ps j).x = t → c = t) ∧ ((pr ps j).y = t → c = t) := by
  obtain ⟨u0, u1, v0, v1, m1⟩ := T.at k0 k1
  obtain ⟨o1, o2, o3⟩ := T.own k0 k1
  have zx := T.zero (pr ps j).x
  have zy := T.zero (pr ps j).y
  by_cases c : d (pr ps j).x t < d (pr ps j).y t
  · refine ⟨(pr ps j).x, .inl rfl, u0, u1, fun i h0 h1 ht ne => ?_, fun e => e, fun e => ?_⟩
    · have sd := T.sd h0 h1 k0 k1 (Ne.symm ne)
      have c' : d (pr ps j).x (pr ps i).x < d (pr ps j).y (pr ps i).x := by rcases ht with e | e <;> rw [← e] at c <;> omega
      exact (if_neg (Ne.symm ne)).trans (if_pos c')
    · rw [← e] at c; omega
  · refine ⟨(pr ps j).y, .inr rfl, v0, v1, fun i h0 h1 ht ne => ?_, fun e => ?_, fun e => e⟩
    · have sd := T.sd h0 h1 k0 k1 (Ne.symm ne)
      have c' : ¬ d (pr ps j).x (pr ps i).x < d (pr ps j).y (pr ps i).x := by rcases ht with e | e <;> rw [← e] at c <;> omega
      exact (if_neg (Ne.symm ne)).trans (if_neg c')
    · rw [← e] at c; omega
/-! at a room that isn't the source there is just one such door -/
def Door (ps : List Pi) (d : Int → Int → Int) (s : Pl) (t i : Int) : Prop := 0 ≤ i ∧ i < ps.length ∧ (((pr ps i).x = t ∧ foot ps d s i ≠ 0) ∨ ((pr ps i).y = t ∧ foot ps d s i ≠ (pr ps i).l))
theorem own_foot {c i : Int} (h0 : 0 ≤ i) (h1 : i < ps.length) (c0 : 0 ≤ c) (c1 : c < n) : ((pr ps i).x = c → foot1 ps d c i = 0) ∧ ((pr ps i).y = c → foot1 ps d c i = (pr ps i).l) := by
  obtain ⟨x0, x1, y0, y1, l1⟩ := T.at h0 h1
  obtain ⟨o1, o2, o3⟩ := T.own h0 h1
  have zx := T.zero (pr ps i).x
  have zy := T.zero (pr ps i).y
  unfold foot1
  exact ⟨fun e => by rw [← e, if_pos (by omega)], fun e => by rw [← e, if_neg (by omega)]⟩
theorem door_ex {s : Pl} (hs : okP n ps s) {t : Int} (t0 : 0 ≤ t) (t1 : t < n) (ne : s ≠ [t]) : ∃ i, Door ps d s t i := by
  rcases ok_cases hs with ⟨r, rfl, r0, r1⟩ | ⟨j, b, rfl, k0, k1, b0, b1⟩
  · obtain ⟨i, p, e, h⟩ := T.par r t r0 r1 t0 t1 (fun z => ne (by rw [z]))
    have hi : i < ps.length := (List.getElem?_eq_some_iff.mp e).1
    refine ⟨(i : Int), by omega, by omega, ?_⟩
    exact (foot1_door T (by omega) (by omega) r0 r1).mp ⟨p, by rw [show ((i : Int)).toNat = i by omega]; exact e, h⟩
  · obtain ⟨c, hc, c0, c1, hf, ex, ey⟩ := foot_side T k0 k1 b0 b1 t0 t1
    have ej : foot ps d [j, b] j = b := if_pos rfl
    by_cases z : c = t
    · subst z
      rcases hc with e | e
      · exact ⟨j, k0, k1, .inl ⟨e.symm, by rw [ej]; omega⟩⟩
      · exact ⟨j, k0, k1, .inr ⟨e.symm, by rw [ej]; omega⟩⟩
    · obtain ⟨i, p, e, h⟩ := T.par c t c0 c1 t0 t1 z
      have hi : i < ps.length := (List.getElem?_eq_some_iff.mp e).1
      have dd := (foot1_door T (t := t) (i := (i : Int)) (by omega) (by omega) c0 c1).mp ⟨p, by rw [show ((i : Int)).toNat = i by omega]; exact e, h⟩
      have nj : (i : Int) ≠ j := fun w => by
        rw [w] at dd
        rcases dd with ⟨e1, _⟩ | ⟨e1, _⟩
        · exact z (ex e1)
        · exact z (ey e1)
      refine ⟨(i : Int), by omega, by omega, ?_⟩
      rw [hf i (by omega) (by omega) (dd.elim (fun q => .inl q.1) (fun q => .inr q.1)) nj]
      exact dd
theorem door_uni {s : Pl} (hs : okP n ps s) {t : Int} (t0 : 0 ≤ t) (t1 : t < n) {i i' : Int} (h : Door ps d s t i) (h' : Door ps d s t i') : i = i' := by
  obtain ⟨h0, h1, h2⟩ := h
  obtain ⟨g0, g1, g2⟩ := h'
  rcases ok_cases hs with ⟨r, rfl, r0, r1⟩ | ⟨j, b, rfl, k0, k1, b0, b1⟩
  · have := T.uni r t i.toNat i'.toNat r0 r1 t0 t1 ((foot1_door T h0 h1 r0 r1).mpr h2) ((foot1_door T g0 g1 r0 r1).mpr g2)
    omega
  · obtain ⟨c, hc, c0, c1, hf, ex, ey⟩ := foot_side T k0 k1 b0 b1 t0 t1
    have self : ∀ k : Int, 0 ≤ k → k < ps.length → (((pr ps k).x = t ∧ foot ps d [j, b] k ≠ 0) ∨ ((pr ps k).y = t ∧ foot ps d [j, b] k ≠ (pr ps k).l)) → k ≠ j → c ≠ t ∧ Dn ps d c t k.toNat := by
      intro k p0 p1 p2 nk
      rw [hf k p0 p1 (p2.elim (fun q => .inl q.1) (fun q => .inr q.1)) nk] at p2
      refine ⟨fun z => ?_, (foot1_door T p0 p1 c0 c1).mpr p2⟩
      have o := own_foot T p0 p1 c0 c1
      rcases p2 with ⟨e1, e2⟩ | ⟨e1, e2⟩
      · exact e2 (o.1 (by rw [e1, z]))
      · exact e2 (o.2 (by rw [e1, z]))
    have atj : (((pr ps j).x = t ∧ foot ps d [j, b] j ≠ 0) ∨ ((pr ps j).y = t ∧ foot ps d [j, b] j ≠ (pr ps j).l)) → c = t := fun q => q.elim (fun z => ex z.1) (fun z => ey z.1)
    by_cases e : i = j
    · by_cases e' : i' = j
      · rw [e, e']
      · rw [e] at h2
        exact absurd (atj h2) (self i' g0 g1 g2 e').1
    · by_cases e' : i' = j
      · rw [e'] at g2
        exact absurd (atj g2) (self i h0 h1 h2 e).1
      · have := T.uni c t i.toNat i'.toNat c0 c1 t0 t1 (self i h0 h1 h2 e).2 (self i' g0 g1 g2 e').2
        omega
end
end Rw

namespace Rw
/-! ### going through a tree from a source -/
structure Sr {α : Type} (src : α) (V : α → Prop) (D : α → Int) (E : α → α → Int → Prop) : Prop where
  zero : D src = 0
  here : V src
  nn : ∀ v, V v → 0 ≤ D v
  wt : ∀ u v w, V u → E u v w → 1 ≤ w
  cl : ∀ u v w, V u → E u v w → V v
  sym : ∀ u v w, E u v w → E v u w
  step : ∀ u v w, V u → E u v w → D v = D u + w ∨ D u = D v + w
  par : ∀ v, V v → v ≠ src → ∃ u w, E v u w ∧ D v = D u + w
  uni : ∀ v u w u' w', V v → E v u w → E v u' w' → D v = D u + w → D v = D u' + w' → u = u'
/-! what was found holds with each the one nearer to the source -/
def Pard {α : Type} (src : α) (D : α → Int) (E : α → α → Int → Prop) (F : List α) : Prop := ∀ v ∈ F, v ≠ src → ∃ u ∈ F, ∃ w, E v u w ∧ D v = D u + w
theorem Sr.found {α : Type} {src : α} {V : α → Prop} {D : α → Int} {E : α → α → Int → Prop} (S : Sr src V D E) {F : List α} (P : Pard src D E F) {u v : α} {w : Int} (hu : u ∈ F) (vu : V u) (e : E u v w) (hv : v ∉ F) : D v = D u + w := by
  rcases S.step u v w vu e with h | h
  · exact h
  · have h1 := S.nn v (S.cl u v w vu e)
    have h2 := S.wt u v w vu e
    have ne : u ≠ src := fun z => by rw [z, S.zero] at h; omega
    obtain ⟨u', m, w', e', h'⟩ := P u hu ne
    have := S.uni u v w u' w' vu e e' h h'
    rw [this] at hv
    exact absurd m hv
theorem Pard.snoc {α : Type} {src : α} {D : α → Int} {E : α → α → Int → Prop} {F : List α} (P : Pard src D E F) {u v : α} {w : Int} (hu : u ∈ F) (e : E v u w) (h : D v = D u + w) : Pard src D E (F ++ [v]) := fun x hx nx => by
  rcases List.mem_append.mp hx with m | m
  · obtain ⟨y, my, r⟩ := P x m nx
    exact ⟨y, List.mem_append_left _ my, r⟩
  · rw [List.mem_singleton.mp m]
    exact ⟨u, List.mem_append_left _ hu, w, e, h⟩
theorem Sr.all {α : Type} {src : α} {V : α → Prop} {D : α → Int} {E : α → α → Int → Prop} (S : Sr src V D E) {F : List α} (h0 : src ∈ F) (hc : ∀ u ∈ F, ∀ v w, E u v w → v ∈ F) : ∀ (k : Nat) (v : α), V v → (D v).toNat < k → v ∈ F
  | 0, _, _, h => absurd h (Nat.not_lt_zero _)
  | k + 1, v, vv, h => by
    by_cases e : v = src
    · rw [e]; exact h0
    · obtain ⟨u, w, euv, hd⟩ := S.par v vv e
      have vu := S.cl v u w vv euv
      have n1 := S.nn u vu
      have n2 := S.wt v u w vv euv
      exact hc u (S.all h0 hc k u vu (by omega)) v w (S.sym v u w euv)
/-! ### rooms -/
def RE (ps : List Pi) (u v w : Int) : Prop := ∃ (i : Nat) (p : Pi), ps[i]? = some p ∧ w = p.l ∧ ((p.x = u ∧ p.y = v) ∨ (p.y = u ∧ p.x = v))
theorem Tm.rooms {n : Int} {ps : List Pi} {d : Int → Int → Int} (T : Tm n ps d) {r : Int} (r0 : 0 ≤ r) (r1 : r < n) : Sr r (fun t => 0 ≤ t ∧ t < n) (d r) (RE ps) where
  zero := T.zero r
  here := ⟨r0, r1⟩
  nn := fun v h => T.nn r0 r1 h.1 h.2
  wt := fun u v w _ ⟨i, p, e, hw, _⟩ => by rw [hw]; exact (T.ok p (List.mem_of_getElem? e)).2.2.2.2
  cl := fun u v w _ ⟨i, p, e, _, h⟩ => by
    obtain ⟨a1, a2, a3, a4, _⟩ := T.ok p (List.mem_of_getElem? e)
    rcases h with ⟨_, h⟩ | ⟨_, h⟩ <;> rw [← h]
    · exact ⟨a3, a4⟩
    · exact ⟨a1, a2⟩
  sym := fun u v w ⟨i, p, e, hw, h⟩ => ⟨i, p, e, hw, h.elim (fun z => .inr ⟨z.2, z.1⟩) (fun z => .inl ⟨z.2, z.1⟩)⟩
  step := fun u v w _ ⟨i, p, e, hw, h⟩ => by
    have s := T.step p (List.mem_of_getElem? e) r r0 r1
    rw [hw]
    rcases h with ⟨h1, h2⟩ | ⟨h1, h2⟩ <;> rw [← h1, ← h2]
    · exact s.symm
    · exact s
  par := fun v h ne => by
    obtain ⟨i, p, e, h⟩ := T.par r v r0 r1 h.1 h.2 (Ne.symm ne)
    rcases h with ⟨h1, h2⟩ | ⟨h1, h2⟩
    · exact ⟨p.y, p.l, ⟨i, p, e, rfl, .inl ⟨h1, rfl⟩⟩, h2.symm⟩
    · exact ⟨p.x, p.l, ⟨i, p, e, rfl, .inr ⟨h1, rfl⟩⟩, h2.symm⟩
  uni := fun v u w u' w' h ⟨i, p, e, hw, hp⟩ ⟨j, q, f, hv, hq⟩ h1 h2 => by
    have t1 : Dn ps (d) r v i := ⟨p, e, hp.elim (fun z => .inl ⟨z.1, by rw [z.2, ← hw]; exact h1.symm⟩) (fun z => .inr ⟨z.1, by rw [z.2, ← hw]; exact h1.symm⟩)⟩
    have t2 : Dn ps (d) r v j := ⟨q, f, hq.elim (fun z => .inl ⟨z.1, by rw [z.2, ← hv]; exact h2.symm⟩) (fun z => .inr ⟨z.1, by rw [z.2, ← hv]; exact h2.symm⟩)⟩
    have ij := T.uni r v i j r0 r1 h.1 h.2 t1 t2
    subst ij
    rw [e] at f
    cases f
    have hi : i < ps.length := (List.getElem?_eq_some_iff.mp e).1
    have o := (T.own (i := (i : Int)) (by omega) (by omega)).2.2
    rw [pr_of e] at o
    rcases hp with ⟨a1, a2⟩ | ⟨a1, a2⟩ <;> rcases hq with ⟨b1, b2⟩ | ⟨b1, b2⟩
    · rw [← a2, ← b2]
    · exact absurd (a1.trans b1.symm) o
    · exact absurd (b1.trans a1.symm) o
    · rw [← a2, ← b2]
/-! ### places -/
theorem nm_0 (ps : List Pi) (i : Int) : nm ps i 0 = [(pr ps i).x] := if_pos rfl
theorem nm_l {ps : List Pi} {i : Int} (h : (pr ps i).l ≠ 0) : nm ps i (pr ps i).l = [(pr ps i).y] := (if_neg h).trans (if_pos rfl)
theorem nm_mid {ps : List Pi} {i a : Int} (h : a ≠ 0) (h2 : a ≠ (pr ps i).l) : nm ps i a = [i, a] := (if_neg h).trans (if_neg h2)
theorem nm_two {ps : List Pi} {i a j b : Int} (h : nm ps i a = [j, b]) : i = j ∧ a = b ∧ a ≠ 0 ∧ a ≠ (pr ps i).l := by
  unfold nm at h
  split at h
  · cases h
  · split at h
    · cases h
    · rename_i x y
      cases h
      exact ⟨rfl, rfl, x, y⟩
theorem nm_one {ps : List Pi} {i a t : Int} (h : nm ps i a = [t]) : (a = 0 ∧ (pr ps i).x = t) ∨ (a = (pr ps i).l ∧ (pr ps i).y = t) := by
  unfold nm at h
  split at h
  · rename_i x; cases h; exact .inl ⟨x, rfl⟩
  · split at h
    · rename_i x; cases h; exact .inr ⟨x, rfl⟩
    · cases h
section
variable {n : Int} {ps : List Pi} {d : Int → Int → Int} (T : Tm n ps d)
include T
theorem ok_nm {i a : Int} (h0 : 0 ≤ i) (h1 : i < ps.length) (a0 : 0 ≤ a) (a1 : a ≤ (pr ps i).l) : okP n ps (nm ps i a) := by
  obtain ⟨x0, x1, y0, y1, l1⟩ := T.at h0 h1
  by_cases e : a = 0
  · rw [e, nm_0]; exact ⟨x0, x1⟩
  · by_cases f : a = (pr ps i).l
    · rw [f, nm_l (by omega)]; exact ⟨y0, y1⟩
    · rw [nm_mid e f]; exact ⟨h0, h1, by omega, by omega⟩
theorem Dp_nn {s q : Pl} (hs : okP n ps s) (hq : okP n ps q) : 0 ≤ Dp ps d s q := by
  have drn : ∀ {r i a : Int}, 0 ≤ r → r < n → 0 ≤ i → i < ps.length → 0 ≤ a → a ≤ (pr ps i).l → 0 ≤ dr ps d r i a := fun {r i a} r0 r1 h0 h1 a0 a1 => by
    obtain ⟨x0, x1, y0, y1, l1⟩ := T.at h0 h1
    have e1 := T.nn r0 r1 x0 x1
    have e2 := T.nn r0 r1 y0 y1
    unfold dr; omega
  rcases ok_cases hs with ⟨r, rfl, r0, r1⟩ | ⟨j, b, rfl, k0, k1, b0, b1⟩ <;> rcases ok_cases hq with ⟨t, rfl, t0, t1⟩ | ⟨i, a, rfl, h0, h1, a0, a1⟩
  · exact T.nn r0 r1 t0 t1
  · exact drn r0 r1 h0 h1 (by omega) (by omega)
  · exact drn t0 t1 k0 k1 (by omega) (by omega)
  · obtain ⟨x0, x1, y0, y1, l1⟩ := T.at k0 k1
    have e1 := drn (a := a) x0 x1 h0 h1 (by omega) (by omega)
    have e2 := drn (a := a) y0 y1 h0 h1 (by omega) (by omega)
    show 0 ≤ (if j = i then ab b a else _)
    split
    · unfold ab; split <;> omega
    · omega
theorem Dp_self {s : Pl} (hs : okP n ps s) : Dp ps d s s = 0 := by
  rcases ok_cases hs with ⟨r, rfl, r0, r1⟩ | ⟨j, b, rfl, k0, k1, b0, b1⟩
  · exact T.zero r
  · show (if j = j then ab b b else _) = 0
    rw [if_pos rfl]
    unfold ab; split <;> omega
theorem Dp_par {s : Pl} (hs : okP n ps s) {p : Pl} (hp : okP n ps p) (ne : p ≠ s) : ∃ q, Adj ps p q ∧ Dp ps d s p = Dp ps d s q + 1 := by
  rcases ok_cases hp with ⟨t, rfl, t0, t1⟩ | ⟨i, a, rfl, h0, h1, a0, a1⟩
  · obtain ⟨i, h0, h1, h⟩ := door_ex T hs t0 t1 (Ne.symm ne)
    obtain ⟨f0, f1, _, f⟩ := foot_at T hs h0 h1
    have l1 := (T.at h0 h1).2.2.2.2
    rcases h with ⟨e, g⟩ | ⟨e, g⟩
    · refine ⟨nm ps i 1, ⟨i, 0, h0, h1, by omega, by omega, .inl ⟨by rw [nm_0, e], rfl⟩⟩, ?_⟩
      have e1 := f 0 (by omega) (by omega)
      have e2 := f 1 (by omega) (by omega)
      rw [nm_0, e] at e1
      unfold ab at e1 e2
      split at e1 <;> split at e2 <;> omega
    · refine ⟨nm ps i ((pr ps i).l - 1), ⟨i, (pr ps i).l - 1, h0, h1, by omega, by omega, .inr ⟨rfl, by rw [show (pr ps i).l - 1 + 1 = (pr ps i).l by omega, nm_l (by omega), e]⟩⟩, ?_⟩
      have e1 := f (pr ps i).l (by omega) (by omega)
      have e2 := f ((pr ps i).l - 1) (by omega) (by omega)
      rw [nm_l (by omega), e] at e1
      unfold ab at e1 e2
      split at e1 <;> split at e2 <;> omega
  · obtain ⟨f0, f1, f2, f⟩ := foot_at T hs h0 h1
    have nf : foot ps d s i ≠ a := fun z => ne (by rw [f2 (by omega) (by omega), z])
    have pe : nm ps i a = [i, a] := nm_mid (by omega) (by omega)
    have e1 := f a (by omega) (by omega)
    rw [pe] at e1
    by_cases c : foot ps d s i < a
    · refine ⟨nm ps i (a - 1), ⟨i, a - 1, h0, h1, by omega, by omega, .inr ⟨rfl, by rw [show a - 1 + 1 = a by omega, pe]⟩⟩, ?_⟩
      have e2 := f (a - 1) (by omega) (by omega)
      unfold ab at e1 e2
      split at e1 <;> split at e2 <;> omega
    · refine ⟨nm ps i (a + 1), ⟨i, a, h0, h1, by omega, by omega, .inl ⟨pe.symm, rfl⟩⟩, ?_⟩
      have e2 := f (a + 1) (by omega) (by omega)
      unfold ab at e1 e2
      split at e1 <;> split at e2 <;> omega
/-! a next place of a room, nearer to the source: by which door -/
theorem near_door {s : Pl} (hs : okP n ps s) {t : Int} {q : Pl} (h : Adj ps [t] q) (hd : Dp ps d s [t] = Dp ps d s q + 1) : ∃ i, Door ps d s t i ∧ (((pr ps i).x = t ∧ q = nm ps i 1) ∨ ((pr ps i).y = t ∧ q = nm ps i ((pr ps i).l - 1))) := by
  obtain ⟨i, a, h0, h1, a0, a1, h⟩ := h
  obtain ⟨f0, f1, _, f⟩ := foot_at T hs h0 h1
  have e1 := f a a0 (by omega)
  have e2 := f (a + 1) (by omega) (by omega)
  rcases h with ⟨hp, rfl⟩ | ⟨rfl, hp⟩
  · rw [← hp] at e1
    rcases nm_one hp.symm with ⟨z, ex⟩ | ⟨z, _⟩
    · subst z
      refine ⟨i, ⟨h0, h1, .inl ⟨ex, fun w => ?_⟩⟩, .inl ⟨ex, rfl⟩⟩
      rw [w] at e1 e2
      unfold ab at e1 e2
      split at e1 <;> split at e2 <;> omega
    · omega
  · rw [← hp] at e2
    rcases nm_one hp.symm with ⟨z, _⟩ | ⟨z, ey⟩
    · omega
    · have ea : a = (pr ps i).l - 1 := by omega
      refine ⟨i, ⟨h0, h1, .inr ⟨ey, fun w => ?_⟩⟩, .inr ⟨ey, by rw [ea]⟩⟩
      rw [w] at e1 e2
      unfold ab at e1 e2
      split at e1 <;> split at e2 <;> omega
/-! a next place of a place within a pipe -/
theorem near_mid {i a : Int} (a0 : 1 ≤ a) (a1 : a ≤ (pr ps i).l - 1) {q : Pl} (h : Adj ps [i, a] q) : q = nm ps i (a - 1) ∨ q = nm ps i (a + 1) := by
  obtain ⟨j, b, h0, h1, b0, b1, h⟩ := h
  rcases h with ⟨hp, rfl⟩ | ⟨rfl, hp⟩
  · obtain ⟨e1, e2, _, _⟩ := nm_two hp.symm
    subst e1 e2
    exact .inr rfl
  · obtain ⟨e1, e2, _, _⟩ := nm_two hp.symm
    subst e1
    left
    rw [← e2, show b + 1 - 1 = b by omega]
theorem Dp_uni {s : Pl} (hs : okP n ps s) {p : Pl} (hp : okP n ps p) {q q' : Pl} (h : Adj ps p q) (h' : Adj ps p q') (e : Dp ps d s p = Dp ps d s q + 1) (e' : Dp ps d s p = Dp ps d s q' + 1) : q = q' := by
  rcases ok_cases hp with ⟨t, rfl, t0, t1⟩ | ⟨i, a, rfl, h0, h1, a0, a1⟩
  · obtain ⟨i, d1, c1⟩ := near_door T hs h e
    obtain ⟨i', d2, c2⟩ := near_door T hs h' e'
    have ii := door_uni T hs t0 t1 d1 d2
    subst ii
    have o := (T.own d1.1 d1.2.1).2.2
    rcases c1 with ⟨a1, a2⟩ | ⟨a1, a2⟩ <;> rcases c2 with ⟨b1, b2⟩ | ⟨b1, b2⟩
    · rw [a2, b2]
    · exact absurd (a1.trans b1.symm) o
    · exact absurd (b1.trans a1.symm) o
    · rw [a2, b2]
  · obtain ⟨f0, f1, f2, f⟩ := foot_at T hs h0 h1
    have pe : nm ps i a = [i, a] := nm_mid (by omega) (by omega)
    have g1 := f a (by omega) (by omega)
    have g2 := f (a - 1) (by omega) (by omega)
    have g3 := f (a + 1) (by omega) (by omega)
    rw [pe] at g1
    rcases near_mid T a0 a1 h with rfl | rfl <;> rcases near_mid T a0 a1 h' with rfl | rfl
    · rfl
    · unfold ab at g1 g2 g3; split at g1 <;> split at g2 <;> split at g3 <;> omega
    · unfold ab at g1 g2 g3; split at g1 <;> split at g2 <;> split at g3 <;> omega
    · rfl
theorem ok_adj {p q : Pl} (h : Adj ps p q) : okP n ps q := by
  obtain ⟨i, a, h0, h1, a0, a1, h⟩ := h
  rcases h with ⟨_, rfl⟩ | ⟨rfl, _⟩
  · exact ok_nm T h0 h1 (by omega) (by omega)
  · exact ok_nm T h0 h1 (by omega) (by omega)
theorem Tm.places {s : Pl} (hs : okP n ps s) : Sr s (okP n ps) (Dp ps d s) (fun p q w => Adj ps p q ∧ w = 1) where
  zero := Dp_self T hs
  here := hs
  nn := fun v h => Dp_nn T hs h
  wt := fun u v w _ h => by rw [h.2]; exact Int.le_refl 1
  cl := fun u v w _ h => ok_adj T h.1
  sym := fun u v w h => ⟨h.1.symm, h.2⟩
  step := fun u v w _ h => by rw [h.2]; exact Dp_step T hs h.1
  par := fun v hv ne => by
    obtain ⟨q, h1, h2⟩ := Dp_par T hs hv ne
    exact ⟨q, 1, ⟨h1, rfl⟩, h2⟩
  uni := fun v u w u' w' hv h h' e e' => by
    rw [h.2] at e
    rw [h'.2] at e'
    exact Dp_uni T hs hv h.1 h'.1 e e'
end
end Rw

namespace Rw
/-! ### distances of places are a metric; what lies on the row between two -/
section
variable {n : Int} {ps : List Pi} {d : Int → Int → Int} (T : Tm n ps d)
include T
theorem Dp_sym {p q : Pl} (hp : okP n ps p) (hq : okP n ps q) : Dp ps d p q = Dp ps d q p := by
  rcases ok_cases hp with ⟨r, rfl, r0, r1⟩ | ⟨i, b, rfl, h0, h1, b0, b1⟩ <;> rcases ok_cases hq with ⟨t, rfl, t0, t1⟩ | ⟨j, a, rfl, k0, k1, a0, a1⟩
  · exact T.sym r t
  · rfl
  · rfl
  · show (if i = j then ab b a else min (b + dr ps d (pr ps i).x j a) ((pr ps i).l - b + dr ps d (pr ps i).y j a)) = (if j = i then ab a b else min (a + dr ps d (pr ps j).x i b) ((pr ps j).l - a + dr ps d (pr ps j).y i b))
    by_cases e : i = j
    · rw [if_pos e, if_pos e.symm]; unfold ab; split <;> split <;> omega
    · rw [if_neg e, if_neg (Ne.symm e)]
      unfold dr
      rw [T.sym (pr ps j).x (pr ps i).x, T.sym (pr ps j).x (pr ps i).y, T.sym (pr ps j).y (pr ps i).x, T.sym (pr ps j).y (pr ps i).y]
      omega
theorem Dp_eq0 {p q : Pl} (hp : okP n ps p) (hq : okP n ps q) (h : Dp ps d p q = 0) : p = q := by
  apply Classical.byContradiction
  intro ne
  obtain ⟨z, az, ez⟩ := Dp_par T hp hq (Ne.symm ne)
  have := Dp_nn T hp (ok_adj T az)
  omega
theorem Dp_pos {p q : Pl} (hp : okP n ps p) (hq : okP n ps q) (h : p ≠ q) : 1 ≤ Dp ps d p q := by
  have h1 := Dp_nn T hp hq
  by_cases e : Dp ps d p q = 0
  · exact absurd (Dp_eq0 T hp hq e) h
  · omega
theorem Dp_tri {x y : Pl} (hx : okP n ps x) (hy : okP n ps y) : ∀ (k : Nat) (z : Pl), okP n ps z → (Dp ps d y z).toNat = k → Dp ps d x z ≤ Dp ps d x y + Dp ps d y z
  | 0, z, hz, e => by
    have h1 := Dp_nn T hy hz
    have e0 := Dp_eq0 T hy hz (by omega)
    subst e0
    omega
  | k + 1, z, hz, e => by
    have h1 := Dp_nn T hy hz
    have ne : z ≠ y := fun w => by rw [w, Dp_self T hy] at e; cases e
    obtain ⟨u, au, eu⟩ := Dp_par T hy hz ne
    have ou := ok_adj T au
    have ih := Dp_tri hx hy k u ou (by omega)
    have st := Dp_step T hx au
    omega
theorem Dp_le {x y z : Pl} (hx : okP n ps x) (hy : okP n ps y) (hz : okP n ps z) : Dp ps d x z ≤ Dp ps d x y + Dp ps d y z := Dp_tri T hx hy _ z hz rfl
/-! on the row between two: the sums -/
def Btw (ps : List Pi) (d : Int → Int → Int) (x z y : Pl) : Prop := Dp ps d x y + Dp ps d y z = Dp ps d x z
/-! the one nearer to x, from z on: between y and z, too -/
theorem btw_par {x y z u : Pl} (hx : okP n ps x) (hy : okP n ps y) (hz : okP n ps z) (h : Btw ps d x z y) (ne : y ≠ z) (au : Adj ps z u) (eu : Dp ps d x z = Dp ps d x u + 1) : Btw ps d x u y ∧ Dp ps d y z = Dp ps d y u + 1 := by
  obtain ⟨w, aw, ew⟩ := Dp_par T hy hz (Ne.symm ne)
  have ow := ok_adj T aw
  have t := Dp_le T hx hy ow
  have s := Dp_step T hx aw
  unfold Btw at h
  have e : Dp ps d x z = Dp ps d x w + 1 := by omega
  have : u = w := Dp_uni T hx hz au aw eu e
  subst this
  exact ⟨by unfold Btw; omega, ew⟩
theorem btw_up {x y z u : Pl} (hx : okP n ps x) (hy : okP n ps y) (hz : okP n ps z) (h : Btw ps d x u y) (au : Adj ps z u) (eu : Dp ps d x z = Dp ps d x u + 1) : Btw ps d x z y := by
  have t := Dp_le T hx hy hz
  have s := Dp_step T hy au
  have ou := ok_adj T au
  unfold Btw at h ⊢
  have t2 := Dp_le T hx hy ou
  omega
theorem btw_refl {x z : Pl} (hx : okP n ps x) (hz : okP n ps z) : Btw ps d x z x ∧ Btw ps d x z z := by
  unfold Btw
  rw [Dp_self T hx, Dp_self T hz]
  omega
/-! two places on the row, as far from its beginning, are one -/
theorem btw_one {x y y' : Pl} (hx : okP n ps x) (hy : okP n ps y) (hy' : okP n ps y') : ∀ (k : Nat) (z : Pl), okP n ps z → (Dp ps d y z).toNat = k → Btw ps d x z y → Btw ps d x z y' → Dp ps d x y = Dp ps d x y' → y = y'
  | 0, z, hz, e, h, h', ed => by
    have h1 := Dp_nn T hy hz
    have h2 := Dp_nn T hy' hz
    unfold Btw at h h'
    rw [Dp_eq0 T hy hz (by omega), Dp_eq0 T hy' hz (by omega)]
  | k + 1, z, hz, e, h, h', ed => by
    have h1 := Dp_nn T hy hz
    have h2 := Dp_nn T hy' hz
    have b1 : y ≠ z := fun w => by rw [w, Dp_self T hz] at e; cases e
    have b2 : y' ≠ z := fun w => by
      unfold Btw at h h'
      rw [w, Dp_self T hz] at h'
      have := Dp_eq0 T hy hz (by rw [w] at ed; omega)
      exact b1 this
    have nx : z ≠ x := fun w => by
      unfold Btw at h
      rw [w, Dp_self T hx] at h
      have := Dp_nn T hx hy
      have := Dp_nn T hy hx
      rw [w] at h1
      exact b1 (by rw [w]; exact Dp_eq0 T hy hx (by omega))
    obtain ⟨u, au, eu⟩ := Dp_par T hx hz nx
    have p1 := btw_par T hx hy hz h b1 au eu
    have p2 := btw_par T hx hy' hz h' b2 au eu
    exact btw_one hx hy hy' k u (ok_adj T au) (by omega) p1.1 p2.1 ed
end
end Rw

namespace Rw
/-! ### steps, one by one -/
def AdjTo (ps : List Pi) (i k : Int) (p q : Pl) : Prop := ∃ j a : Int, 0 ≤ j ∧ (j < i ∧ 0 ≤ a ∧ a < (pr ps j).l ∨ j = i ∧ 0 ≤ a ∧ a < k) ∧ ((p = nm ps j a ∧ q = nm ps j (a + 1)) ∨ (q = nm ps j a ∧ p = nm ps j (a + 1)))
theorem AdjTo.all {ps : List Pi} {p q : Pl} : AdjTo ps ps.length 0 p q ↔ Adj ps p q := by
  constructor
  · rintro ⟨j, a, h0, h | h, r⟩
    · exact ⟨j, a, h0, h.1, h.2.1, h.2.2, r⟩
    · omega
  · rintro ⟨j, a, h0, h1, h2, h3, r⟩
    exact ⟨j, a, h0, .inl ⟨h1, h2, h3⟩, r⟩
theorem AdjTo.next {ps : List Pi} {i : Int} (hi : 0 ≤ i) {p q : Pl} : AdjTo ps i (pr ps i).l p q ↔ AdjTo ps (i + 1) 0 p q := by
  constructor
  · rintro ⟨j, a, h0, h | h, r⟩
    · exact ⟨j, a, h0, .inl ⟨by omega, h.2.1, h.2.2⟩, r⟩
    · exact ⟨j, a, h0, .inl ⟨by omega, h.2.1, by rw [h.1]; exact h.2.2⟩, r⟩
  · rintro ⟨j, a, h0, h | h, r⟩
    · by_cases e : j = i
      · exact ⟨j, a, h0, .inr ⟨e, h.2.1, by rw [← e]; exact h.2.2⟩, r⟩
      · exact ⟨j, a, h0, .inl ⟨by omega, h.2.1, h.2.2⟩, r⟩
    · omega
theorem AdjTo.step {ps : List Pi} {i k : Int} (hi : 0 ≤ i) (hk : 0 ≤ k) {p q : Pl} : AdjTo ps i (k + 1) p q ↔ (AdjTo ps i k p q ∨ (p = nm ps i k ∧ q = nm ps i (k + 1))) ∨ (p = nm ps i (k + 1) ∧ q = nm ps i k) := by
  constructor
  · rintro ⟨j, a, h0, h | h, r⟩
    · exact .inl (.inl ⟨j, a, h0, .inl h, r⟩)
    · by_cases e : a = k
      · obtain ⟨rfl, _⟩ := h
        subst e
        rcases r with ⟨r1, r2⟩ | ⟨r1, r2⟩
        · exact .inl (.inr ⟨r1, r2⟩)
        · exact .inr ⟨r2, r1⟩
      · exact .inl (.inl ⟨j, a, h0, .inr ⟨h.1, h.2.1, by omega⟩, r⟩)
  · rintro ((⟨j, a, h0, h | h, r⟩ | ⟨r1, r2⟩) | ⟨r1, r2⟩)
    · exact ⟨j, a, h0, .inl h, r⟩
    · exact ⟨j, a, h0, .inr ⟨h.1, h.2.1, by omega⟩, r⟩
    · exact ⟨i, k, hi, .inr ⟨rfl, hk, by omega⟩, .inl ⟨r1, r2⟩⟩
    · exact ⟨i, k, hi, .inr ⟨rfl, hk, by omega⟩, .inr ⟨r2, r1⟩⟩
section
variable {n : Int} {ps : List Pi} {d : Int → Int → Int} (T : Tm n ps d)
include T
theorem nm_inj {i a b : Int} (h0 : 0 ≤ i) (h1 : i < ps.length) (a0 : 0 ≤ a) (a1 : a ≤ (pr ps i).l) (b0 : 0 ≤ b) (b1 : b ≤ (pr ps i).l) (h : nm ps i a = nm ps i b) : a = b := by
  have o := (T.own h0 h1).2.2
  have l1 := (T.at h0 h1).2.2.2.2
  by_cases ea : a = 0
  · subst ea
    rw [nm_0] at h
    rcases nm_one h.symm with ⟨z, _⟩ | ⟨_, z⟩
    · exact z.symm
    · exact absurd z.symm o
  · by_cases el : a = (pr ps i).l
    · rw [el, nm_l (by omega)] at h
      rcases nm_one h.symm with ⟨_, z⟩ | ⟨z, _⟩
      · exact absurd z o
      · rw [el, z]
    · rw [nm_mid ea el] at h
      obtain ⟨_, z, _, _⟩ := nm_two h.symm
      exact z.symm
/-! one step has one name -/
theorem step_one {i a j b : Int} (h0 : 0 ≤ i) (h1 : i < ps.length) (a0 : 0 ≤ a) (a1 : a < (pr ps i).l) (k0 : 0 ≤ j) (k1 : j < ps.length) (b0 : 0 ≤ b) (b1 : b < (pr ps j).l)
    (h : (nm ps i a = nm ps j b ∧ nm ps i (a + 1) = nm ps j (b + 1)) ∨ (nm ps i a = nm ps j (b + 1) ∧ nm ps i (a + 1) = nm ps j b)) : i = j ∧ a = b := by
  have same : i = j → a = b := fun e => by
    subst e
    rcases h with ⟨z, _⟩ | ⟨z1, z2⟩
    · exact nm_inj T h0 h1 a0 (by omega) b0 (by omega) z
    · have w1 := nm_inj T h0 h1 a0 (by omega) (by omega) (by omega) z1
      have w2 := nm_inj T h0 h1 (by omega) (by omega) b0 (by omega) z2
      omega
  suffices i = j from ⟨this, same this⟩
  by_cases e0 : a = 0
  · by_cases e1 : a + 1 = (pr ps i).l
    · -- a pipe of one step
      subst e0
      have x1 : nm ps i 0 = [(pr ps i).x] := nm_0 ps i
      have x2 : nm ps i (0 + 1) = [(pr ps i).y] := by rw [e1, nm_l (by omega)]
      rw [x1, x2] at h
      have ob : b = 0 ∧ b + 1 = (pr ps j).l := by
        rcases h with ⟨z1, z2⟩ | ⟨z1, z2⟩
        · rcases nm_one z1.symm with ⟨w, _⟩ | ⟨w, _⟩ <;> rcases nm_one z2.symm with ⟨u, _⟩ | ⟨u, _⟩ <;> omega
        · rcases nm_one z1.symm with ⟨w, _⟩ | ⟨w, _⟩ <;> rcases nm_one z2.symm with ⟨u, _⟩ | ⟨u, _⟩ <;> omega
      obtain ⟨rfl, ob⟩ := ob
      have y1 : nm ps j 0 = [(pr ps j).x] := nm_0 ps j
      have y2 : nm ps j (0 + 1) = [(pr ps j).y] := by rw [ob, nm_l (by omega)]
      rw [y1, y2] at h
      obtain ⟨p0, p1, p2, p3, _⟩ := T.at h0 h1
      have o1 := (T.own h0 h1).1
      have z0 := T.zero (pr ps i).x
      have d1 : Dn ps d (pr ps i).x (pr ps i).y i.toNat := ⟨_, (pr_mem h0 h1).2, .inr ⟨rfl, by omega⟩⟩
      have d2 : Dn ps d (pr ps i).x (pr ps i).y j.toNat := by
        refine ⟨_, (pr_mem k0 k1).2, ?_⟩
        rcases h with ⟨z1, z2⟩ | ⟨z1, z2⟩
        · have w1 : (pr ps i).x = (pr ps j).x := by simpa using z1
          have w2 : (pr ps i).y = (pr ps j).y := by simpa using z2
          exact .inr ⟨w2.symm, by rw [← w1]; omega⟩
        · have w1 : (pr ps i).x = (pr ps j).y := by simpa using z1
          have w2 : (pr ps i).y = (pr ps j).x := by simpa using z2
          exact .inl ⟨w2.symm, by rw [← w1]; omega⟩
      have := T.uni _ _ _ _ p0 p1 p2 p3 d1 d2
      omega
    · have m : nm ps i (a + 1) = [i, a + 1] := nm_mid (by omega) e1
      rw [m] at h
      rcases h with ⟨_, z⟩ | ⟨_, z⟩
      · exact (nm_two z.symm).1.symm
      · exact (nm_two z.symm).1.symm
  · have m : nm ps i a = [i, a] := nm_mid e0 (by omega)
    rw [m] at h
    rcases h with ⟨z, _⟩ | ⟨z, _⟩
    · exact (nm_two z.symm).1.symm
    · exact (nm_two z.symm).1.symm
theorem not_yet {i k : Int} (h0 : 0 ≤ i) (h1 : i < ps.length) (k0 : 0 ≤ k) (k1 : k < (pr ps i).l) : ¬ AdjTo ps i k (nm ps i k) (nm ps i (k + 1)) := by
  rintro ⟨j, a, j0, h | h, r⟩
  · have z := step_one T h0 h1 k0 k1 j0 (by omega) h.2.1 h.2.2 (r.elim (fun w => .inl w) (fun w => .inr ⟨w.2, w.1⟩))
    omega
  · obtain ⟨rfl, a0, a1⟩ := h
    have z := step_one T h0 h1 k0 k1 h0 h1 a0 (by omega) (r.elim (fun w => .inl w) (fun w => .inr ⟨w.2, w.1⟩))
    omega
theorem AdjTo.sym' {i k : Int} {p q : Pl} (h : AdjTo ps i k p q) : AdjTo ps i k q p := by
  obtain ⟨j, a, h0, h1, r⟩ := h
  exact ⟨j, a, h0, h1, r.symm⟩
theorem nm_next {i k : Int} (h0 : 0 ≤ i) (h1 : i < ps.length) (k0 : 0 ≤ k) (k1 : k < (pr ps i).l) : nm ps i k ≠ nm ps i (k + 1) := fun z => by
  have := nm_inj T h0 h1 k0 (by omega) (by omega) (by omega) z
  omega
end
end Rw

namespace Rw
/-! ### arms: how deep, by rooms and by going -/
def armTo (ps : List Pi) (d : Int → Int → Int) (p b : Pl) : Nat → Int
  | 0 => 0
  | m + 1 => if Dp ps d b [(m : Int)] < Dp ps d p [(m : Int)] then (if Dp ps d p [(m : Int)] > armTo ps d p b m then Dp ps d p [(m : Int)] else armTo ps d p b m) else armTo ps d p b m
theorem armTo_nn (ps : List Pi) (d : Int → Int → Int) (p b : Pl) : ∀ m, 0 ≤ armTo ps d p b m
  | 0 => Int.le_refl 0
  | m + 1 => by
    have := armTo_nn ps d p b m
    unfold armTo
    split
    · split <;> omega
    · exact this
theorem armTo_le {ps : List Pi} {d : Int → Int → Int} {p b : Pl} : ∀ (m r : Nat), r < m → Dp ps d b [(r : Int)] < Dp ps d p [(r : Int)] → Dp ps d p [(r : Int)] ≤ armTo ps d p b m
  | 0, _, h, _ => absurd h (Nat.not_lt_zero _)
  | m + 1, r, h, hb => by
    unfold armTo
    by_cases e : r = m
    · subst e
      rw [if_pos hb]
      split <;> omega
    · have := armTo_le m r (by omega) hb
      split
      · split <;> omega
      · exact this
theorem armTo_at {ps : List Pi} {d : Int → Int → Int} {p b : Pl} : ∀ m : Nat, 0 < armTo ps d p b m → ∃ r : Nat, r < m ∧ Dp ps d b [(r : Int)] < Dp ps d p [(r : Int)] ∧ Dp ps d p [(r : Int)] = armTo ps d p b m
  | 0, h => absurd h (Int.lt_irrefl 0)
  | m + 1, h => by
    unfold armTo at h ⊢
    split at h
    · rename_i c
      rw [if_pos c]
      split at h
      · rename_i c2
        rw [if_pos c2]
        exact ⟨m, Nat.lt_succ_self _, c, rfl⟩
      · rename_i c2
        rw [if_neg c2]
        obtain ⟨r, h1, h2, h3⟩ := armTo_at m h
        exact ⟨r, by omega, h2, h3⟩
    · rename_i c
      rw [if_neg c]
      obtain ⟨r, h1, h2, h3⟩ := armTo_at m h
      exact ⟨r, by omega, h2, h3⟩
section
variable {n : Int} {ps : List Pi} {d : Int → Int → Int} (T : Tm n ps d)
include T
theorem adj_one {p b : Pl} (hp : okP n ps p) (h : Adj ps p b) : Dp ps d p b = 1 ∧ Dp ps d b p = 1 := by
  have hb := ok_adj T h
  have := Dp_step T hp h
  have z := Dp_self T hp
  have nn := Dp_nn T hp hb
  have e : Dp ps d p b = 1 := by omega
  exact ⟨e, by rw [← Dp_sym T hp hb]; exact e⟩
/-! one step down, within the arm -/
theorem arm_down {p b v : Pl} (hp : okP n ps p) (h : Adj ps p b) (hv : okP n ps v) {k : Int} (k0 : 0 ≤ k) (e1 : Dp ps d p v = k + 2) (e2 : Dp ps d b v = k + 1) : ∃ w, Adj ps v w ∧ okP n ps w ∧ Dp ps d p w = k + 1 ∧ Dp ps d b w = k := by
  have hb := ok_adj T h
  obtain ⟨a1, a2⟩ := adj_one T hp h
  have ne : v ≠ b := fun z => by rw [z, Dp_self T hb] at e2; omega
  obtain ⟨w, hw, ew⟩ := Dp_par T hb hv ne
  have okw := ok_adj T hw
  have tri := Dp_le T hp hb okw
  have st := Dp_step T hp hw
  exact ⟨w, hw, okw, by omega, by omega⟩
theorem arm_all {p b v : Pl} (hp : okP n ps p) (h : Adj ps p b) : ∀ (m : Nat) (v : Pl), okP n ps v → Dp ps d p v = (m : Int) + 1 → Dp ps d b v = (m : Int) → ∀ k : Nat, k ≤ m → ∃ z, okP n ps z ∧ Dp ps d p z = (k : Int) + 1 ∧ Dp ps d b z = (k : Int)
  | 0, v, hv, e1, e2, k, hk => by
    have : k = 0 := by omega
    subst this
    exact ⟨v, hv, e1, e2⟩
  | m + 1, v, hv, e1, e2, k, hk => by
    by_cases c : k = m + 1
    · subst c; exact ⟨v, hv, e1, e2⟩
    · obtain ⟨w, _, okw, w1, w2⟩ := arm_down T hp h hv (k := (m : Int)) (by omega) (by omega) (by omega)
      exact arm_all (v := v) hp h m w okw w1 w2 k (by omega)
/-! from a place of the arm on to a room of it -/
theorem arm_room {p b z : Pl} (hp : okP n ps p) (h : Adj ps p b) (hz : okP n ps z) {k : Int} (e1 : Dp ps d p z = k + 1) (e2 : Dp ps d b z = k) : ∃ r : Int, 0 ≤ r ∧ r < n ∧ k + 1 ≤ Dp ps d p [r] ∧ Dp ps d b [r] < Dp ps d p [r] := by
  have hb := ok_adj T h
  rcases ok_cases hz with ⟨r, rfl, r0, r1⟩ | ⟨i, a, rfl, h0, h1, a0, a1⟩
  · exact ⟨r, r0, r1, by omega, by omega⟩
  · obtain ⟨x0, x1, y0, y1, l1⟩ := T.at h0 h1
    obtain ⟨f0, f1, _, fa⟩ := foot_at T hp h0 h1
    have za : nm ps i a = [i, a] := nm_mid (by omega) (by omega)
    by_cases c : foot ps d p i ≤ a
    · have q1 := fa (pr ps i).l (by omega) (by omega)
      have q2 := fa a (by omega) (by omega)
      rw [za] at q2
      rw [nm_l (by omega)] at q1
      have q3 := Dp_same T h0 h1 a0 a1 (pr ps i).l
      rw [nm_l (by omega)] at q3
      have tri := Dp_le T hb hz (show okP n ps [(pr ps i).y] from ⟨y0, y1⟩)
      unfold ab at q1 q2 q3
      refine ⟨(pr ps i).y, y0, y1, ?_, ?_⟩ <;> (split at q1 <;> split at q2 <;> split at q3 <;> omega)
    · have q1 := fa 0 (by omega) (by omega)
      have q2 := fa a (by omega) (by omega)
      rw [za] at q2
      rw [nm_0] at q1
      have q3 := Dp_same T h0 h1 a0 a1 0
      rw [nm_0] at q3
      have tri := Dp_le T hb hz (show okP n ps [(pr ps i).x] from ⟨x0, x1⟩)
      unfold ab at q1 q2 q3
      refine ⟨(pr ps i).x, x0, x1, ?_, ?_⟩ <;> (split at q1 <;> split at q2 <;> split at q3 <;> omega)
theorem arm_iff {p b : Pl} (hp : okP n ps p) (h : Adj ps p b) (n0 : 0 ≤ n) (k : Nat) : (∃ z, okP n ps z ∧ Dp ps d p z = (k : Int) + 1 ∧ Dp ps d b z = (k : Int)) ↔ (k : Int) + 1 ≤ armTo ps d p b n.toNat := by
  have hb := ok_adj T h
  constructor
  · rintro ⟨z, hz, e1, e2⟩
    obtain ⟨r, r0, r1, q1, q2⟩ := arm_room T hp h hz e1 e2
    have := armTo_le (ps := ps) (d := d) (p := p) (b := b) n.toNat r.toNat (by omega) (by rw [show ((r.toNat : Nat) : Int) = r by omega]; exact q2)
    rw [show ((r.toNat : Nat) : Int) = r by omega] at this
    omega
  · intro hk
    obtain ⟨r, hr, q2, q1⟩ := armTo_at (ps := ps) (d := d) (p := p) (b := b) n.toNat (by omega)
    have okr : okP n ps [(r : Int)] := ⟨by omega, by omega⟩
    have st := Dp_step T okr h
    rw [Dp_sym T okr hp, Dp_sym T okr hb] at st
    obtain ⟨m, hm⟩ : ∃ m : Nat, Dp ps d p [(r : Int)] = (m : Int) + 1 := ⟨(Dp ps d p [(r : Int)] - 1).toNat, by omega⟩
    exact arm_all T (v := p) hp h m [(r : Int)] okr hm (by omega) k (by omega)
/-! going on, level by level -/
structure Lev (n : Int) (ps : List Pi) (d : Int → Int → Int) (p b : Pl) (k : Int) (prs : List (Pl × Pl)) : Prop where
  nd : (prs.map (·.2)).Nodup
  par : ∀ q ∈ prs, Adj ps q.2 q.1 ∧ Dp ps d p q.2 = Dp ps d p q.1 + 1
  all : ∀ z, z ∈ prs.map (·.2) ↔ (okP n ps z ∧ Dp ps d p z = k + 1 ∧ Dp ps d b z = k)
theorem Lev.first {p b : Pl} (hp : okP n ps p) (h : Adj ps p b) : Lev n ps d p b 0 [(p, b)] where
  nd := by simp
  par := fun q hq => by
    rw [List.mem_singleton.mp hq]
    exact ⟨h.symm, by rw [(adj_one T hp h).1, Dp_self T hp]; rfl⟩
  all := fun z => by
    have hb := ok_adj T h
    show z ∈ [b] ↔ _
    rw [List.mem_singleton]
    constructor
    · rintro rfl
      exact ⟨hb, (adj_one T hp h).1, Dp_self T hb⟩
    · rintro ⟨hz, _, e⟩
      exact (Dp_eq0 T hb hz e).symm
/-! those beyond one -/
theorem lev_on {p b : Pl} (hp : okP n ps p) (h : Adj ps p b) {k : Int} (k0 : 0 ≤ k) {bk z v : Pl} (hz : okP n ps z) (e1 : Dp ps d p z = k + 1) (e2 : Dp ps d b z = k) (ab : Adj ps z bk) (eb : Dp ps d p z = Dp ps d p bk + 1) (av : Adj ps z v) (ne : v ≠ bk) :
    okP n ps v ∧ Dp ps d p v = k + 2 ∧ Dp ps d b v = k + 1 ∧ Adj ps v z ∧ Dp ps d p v = Dp ps d p z + 1 := by
  have hb := ok_adj T h
  have hv := ok_adj T av
  have s1 := Dp_step T hp av
  have c1 : Dp ps d p v = k + 2 := by
    rcases s1 with s | s
    · omega
    · exact absurd (Dp_uni T hp hz av ab s eb) ne
  have s2 := Dp_step T hb av
  have tri := Dp_le T hp hb hv
  have a1 := (adj_one T hp h).1
  exact ⟨hv, c1, by omega, av.symm, by omega⟩
end
end Rw

namespace Rw
/-! ### a house with all lengths t times as great -/
def scl (t : Int) (p : Pi) : Pi := ⟨p.x, p.y, p.l * t, [], []⟩
def sclD (t : Int) (d : Int → Int → Int) : Int → Int → Int := fun r s => t * d r s
def led (t : Int) : Pl → Pl
  | [i, a] => [i, a * t]
  | p => p
theorem pr_scl {ps : List Pi} {t i : Int} (h0 : 0 ≤ i) (h1 : i < ps.length) : pr (ps.map (scl t)) i = scl t (pr ps i) := by
  unfold pr
  rw [List.getD_eq_getElem?_getD, List.getD_eq_getElem?_getD, List.getElem?_map, List.getElem?_eq_getElem (by omega)]
  rfl
theorem mul_eq {t a b : Int} (t1 : 1 ≤ t) : t * a = t * b ↔ a = b := ⟨fun h => Int.eq_of_mul_eq_mul_left (by omega) h, fun h => by rw [h]⟩
theorem mul_lt {t a b : Int} (t1 : 1 ≤ t) : t * a < t * b ↔ a < b := ⟨fun h => Int.lt_of_mul_lt_mul_left h (by omega), fun h => Int.mul_lt_mul_of_pos_left h (by omega)⟩
theorem mul_min {t a b : Int} (t1 : 1 ≤ t) : min (t * a) (t * b) = t * min a b := by
  rw [Int.min_def, Int.min_def]
  by_cases c : a ≤ b
  · rw [if_pos c, if_pos (Int.mul_le_mul_of_nonneg_left c (by omega))]
  · rw [if_neg c, if_neg (fun z => c (Int.le_of_mul_le_mul_left z (by omega)))]
theorem dn_scl {ps : List Pi} {d : Int → Int → Int} {t : Int} (t1 : 1 ≤ t) {s u : Int} {i : Nat} : Dn (ps.map (scl t)) (sclD t d) s u i ↔ Dn ps d s u i := by
  unfold Dn
  have key : ∀ p : Pi, (((scl t p).x = u ∧ sclD t d s (scl t p).y + (scl t p).l = sclD t d s u) ∨ ((scl t p).y = u ∧ sclD t d s (scl t p).x + (scl t p).l = sclD t d s u)) ↔ ((p.x = u ∧ d s p.y + p.l = d s u) ∨ (p.y = u ∧ d s p.x + p.l = d s u)) := fun p => by
    have e : ∀ v, sclD t d s v + (scl t p).l = sclD t d s u ↔ d s v + p.l = d s u := fun v => by
      show t * d s v + p.l * t = t * d s u ↔ _
      rw [Int.mul_comm p.l t, ← Int.mul_add]; exact mul_eq t1
    show ((p.x = u ∧ sclD t d s p.y + (scl t p).l = sclD t d s u) ∨ (p.y = u ∧ sclD t d s p.x + (scl t p).l = sclD t d s u)) ↔ _
    rw [e, e]
  constructor
  · rintro ⟨q, g, h⟩
    rw [List.getElem?_map] at g
    obtain ⟨p, gp, rfl⟩ := Option.map_eq_some_iff.mp g
    exact ⟨p, gp, (key p).mp h⟩
  · rintro ⟨p, g, h⟩
    exact ⟨scl t p, by rw [List.getElem?_map, g]; rfl, (key p).mpr h⟩
theorem Tm.scl {n : Int} {ps : List Pi} {d : Int → Int → Int} (T : Tm n ps d) {t : Int} (t1 : 1 ≤ t) : Tm n (ps.map (Rw.scl t)) (sclD t d) where
  ok := fun q m => by
    obtain ⟨p, mp, rfl⟩ := List.mem_map.mp m
    obtain ⟨a1, a2, a3, a4, a5⟩ := T.ok p mp
    exact ⟨a1, a2, a3, a4, by
      show 1 ≤ p.l * t
      have := Int.mul_le_mul a5 t1 (by omega) (by omega)
      omega⟩
  zero := fun s => by show t * d s s = 0; rw [T.zero, Int.mul_zero]
  sym := fun s u => by show t * d s u = t * d u s; rw [T.sym]
  pos := fun s u a b c e ne => Int.mul_pos (by omega) (T.pos s u a b c e ne)
  step := fun q m s a b => by
    obtain ⟨p, mp, rfl⟩ := List.mem_map.mp m
    show t * d s p.x = t * d s p.y + p.l * t ∨ t * d s p.y = t * d s p.x + p.l * t
    rcases T.step p mp s a b with h | h
    · left; rw [h, Int.mul_add, Int.mul_comm t p.l]
    · right; rw [h, Int.mul_add, Int.mul_comm t p.l]
  par := fun s u a b c e ne => by
    obtain ⟨i, h⟩ := T.par s u a b c e ne
    exact ⟨i, (dn_scl t1).mpr h⟩
  uni := fun s u i j a b c e h1 h2 => T.uni s u i j a b c e ((dn_scl t1).mp h1) ((dn_scl t1).mp h2)
  side := fun i j p q ne g1 g2 => by
    rw [List.getElem?_map] at g1 g2
    obtain ⟨p', gp, rfl⟩ := Option.map_eq_some_iff.mp g1
    obtain ⟨q', gq, rfl⟩ := Option.map_eq_some_iff.mp g2
    show t * d p'.x q'.x - t * d p'.y q'.x = t * d p'.x q'.y - t * d p'.y q'.y
    rw [← Int.mul_sub, ← Int.mul_sub, T.side i j p' q' ne gp gq]
theorem ab_scl {t a b : Int} (t1 : 1 ≤ t) : ab (a * t) (b * t) = t * ab a b := by
  unfold ab
  rw [Int.mul_comm a t, Int.mul_comm b t]
  by_cases c : a < b
  · rw [if_pos c, if_pos ((mul_lt t1).mpr c), Int.mul_sub]
  · rw [if_neg c, if_neg (fun z => c ((mul_lt t1).mp z)), Int.mul_sub]
theorem dr_scl {ps : List Pi} {d : Int → Int → Int} {t : Int} (t1 : 1 ≤ t) {s i a : Int} (h0 : 0 ≤ i) (h1 : i < ps.length) : dr (ps.map (scl t)) (sclD t d) s i (a * t) = t * dr ps d s i a := by
  unfold dr
  rw [pr_scl h0 h1]
  show min (t * d s (pr ps i).x + a * t) (t * d s (pr ps i).y + ((pr ps i).l * t - a * t)) = _
  rw [← mul_min t1, Int.mul_add, Int.mul_add, Int.mul_sub, Int.mul_comm a t, Int.mul_comm (pr ps i).l t]
theorem Dp_scl {n : Int} {ps : List Pi} {d : Int → Int → Int} {t : Int} (t1 : 1 ≤ t) {p q : Pl} (hp : okP n ps p) (hq : okP n ps q) : Dp (ps.map (scl t)) (sclD t d) (led t p) (led t q) = t * Dp ps d p q := by
  rcases ok_cases hp with ⟨r, rfl, r0, r1⟩ | ⟨i, b, rfl, h0, h1, b0, b1⟩ <;> rcases ok_cases hq with ⟨u, rfl, u0, u1⟩ | ⟨j, a, rfl, k0, k1, a0, a1⟩
  · rfl
  · exact dr_scl t1 k0 k1
  · exact dr_scl t1 h0 h1
  · show (if i = j then ab (b * t) (a * t) else min (b * t + dr (ps.map (scl t)) (sclD t d) (pr (ps.map (scl t)) i).x j (a * t)) ((pr (ps.map (scl t)) i).l - b * t + dr (ps.map (scl t)) (sclD t d) (pr (ps.map (scl t)) i).y j (a * t))) = t * (if i = j then ab b a else min (b + dr ps d (pr ps i).x j a) ((pr ps i).l - b + dr ps d (pr ps i).y j a))
    by_cases c : i = j
    · rw [if_pos c, if_pos c, ab_scl t1]
    · rw [if_neg c, if_neg c, dr_scl t1 k0 k1, dr_scl t1 k0 k1, pr_scl h0 h1, ← mul_min t1, Int.mul_add, Int.mul_add, Int.mul_sub]
      show min (b * t + t * dr ps d (pr ps i).x j a) ((pr ps i).l * t - b * t + t * dr ps d (pr ps i).y j a) = _
      rw [Int.mul_comm b t, Int.mul_comm (pr ps i).l t]
theorem len_scl {t a l : Int} (t1 : 1 ≤ t) (a0 : 0 ≤ a) (h : a ≤ l) : 0 ≤ a * t ∧ a * t ≤ l * t := ⟨Int.mul_nonneg a0 (by omega), Int.mul_le_mul_of_nonneg_right h (by omega)⟩
theorem led_nm {n : Int} {ps : List Pi} {d : Int → Int → Int} (T : Tm n ps d) {t : Int} (t1 : 1 ≤ t) {i a : Int} (h0 : 0 ≤ i) (h1 : i < ps.length) : led t (nm ps i a) = nm (ps.map (scl t)) i (a * t) := by
  obtain ⟨_, _, _, _, l1⟩ := T.at h0 h1
  have e : ∀ {u v : Int}, u * t = v * t ↔ u = v := fun {u v} => ⟨fun h => Int.eq_of_mul_eq_mul_right (by omega) h, fun h => by rw [h]⟩
  unfold nm
  rw [pr_scl h0 h1]
  by_cases c : a = 0
  · rw [if_pos c, if_pos (by rw [c, Int.zero_mul])]; rfl
  · rw [if_neg c, if_neg (show ¬ a * t = 0 from fun z => c (e.mp (by rw [z, Int.zero_mul])))]
    by_cases c2 : a = (pr ps i).l
    · rw [if_pos c2, if_pos (show a * t = (scl t (pr ps i)).l by rw [c2]; rfl)]; rfl
    · rw [if_neg c2, if_neg (show ¬ a * t = (scl t (pr ps i)).l from fun z => c2 (e.mp z))]; rfl
/-! along one pipe -/
theorem Dp_along {n : Int} {ps : List Pi} {d : Int → Int → Int} (T : Tm n ps d) {i u v : Int} (h0 : 0 ≤ i) (h1 : i < ps.length) (u0 : 0 ≤ u) (u1 : u ≤ (pr ps i).l) (v0 : 0 ≤ v) (v1 : v ≤ (pr ps i).l) : Dp ps d (nm ps i u) (nm ps i v) = ab v u := by
  have ok := ok_nm T h0 h1 u0 u1
  obtain ⟨f0, f1, _, fa⟩ := foot_at T ok h0 h1
  have q1 := fa u u0 u1
  have q2 := fa v v0 v1
  have nn := Dp_nn T ok (ok_nm T h0 h1 f0 f1)
  rw [Dp_self T ok] at q1
  have e : u = foot ps d (nm ps i u) i := by unfold ab at q1; split at q1 <;> omega
  rw [q2, ← e, Dp_self T ok]
  omega
/-! the place of the greater house next to one, towards another one -/
structure Twd (ps : List Pi) (t : Int) (p b near : Pl) : Prop where
  ex : ∃ i a : Int, 0 ≤ i ∧ i < ps.length ∧ 0 ≤ a ∧ a < (pr ps i).l ∧ ((p = nm ps i a ∧ b = nm ps i (a + 1) ∧ near = nm (ps.map (scl t)) i (a * t + 1)) ∨ (p = nm ps i (a + 1) ∧ b = nm ps i a ∧ near = nm (ps.map (scl t)) i ((a + 1) * t - 1)))
theorem Twd.facts {n : Int} {ps : List Pi} {d : Int → Int → Int} (T : Tm n ps d) {t : Int} (t1 : 1 ≤ t) {p b near : Pl} (h : Twd ps t p b near) : okP n (ps.map (scl t)) near ∧ okP n ps p ∧ okP n ps b ∧ okP n (ps.map (scl t)) (led t p) ∧ okP n (ps.map (scl t)) (led t b) ∧
    Dp (ps.map (scl t)) (sclD t d) near (led t b) = t - 1 ∧ Adj ps p b := by
  obtain ⟨i, a, h0, h1, a0, a1, h⟩ := h.ex
  have T' := T.scl t1
  have hl : i < (ps.map (scl t)).length := by rw [List.length_map]; exact h1
  have el : (pr (ps.map (scl t)) i).l = (pr ps i).l * t := by rw [pr_scl h0 h1]; rfl
  have e1 : (a + 1) * t = a * t + t := by rw [Int.add_mul, Int.one_mul]
  obtain ⟨b0, b1⟩ := len_scl t1 a0 (show a ≤ (pr ps i).l by omega)
  obtain ⟨c0, c1⟩ := len_scl t1 (show 0 ≤ a + 1 by omega) (show a + 1 ≤ (pr ps i).l by omega)
  have ka := ok_nm T h0 h1 a0 (show a ≤ (pr ps i).l by omega)
  have kb := ok_nm T h0 h1 (show 0 ≤ a + 1 by omega) (show a + 1 ≤ (pr ps i).l by omega)
  have la : okP n (ps.map (scl t)) (led t (nm ps i a)) := by rw [led_nm T t1 h0 h1]; exact ok_nm T' h0 hl b0 (by rw [el]; exact b1)
  have lb : okP n (ps.map (scl t)) (led t (nm ps i (a + 1))) := by rw [led_nm T t1 h0 h1]; exact ok_nm T' h0 hl c0 (by rw [el]; exact c1)
  rcases h with ⟨rfl, rfl, rfl⟩ | ⟨rfl, rfl, rfl⟩
  · refine ⟨ok_nm T' h0 hl (by omega) (by rw [el]; omega), ka, kb, la, lb, ?_, ⟨i, a, h0, h1, a0, a1, .inl ⟨rfl, rfl⟩⟩⟩
    rw [led_nm T t1 h0 h1, Dp_along T' h0 hl (by omega) (by rw [el]; omega) c0 (by rw [el]; exact c1)]
    unfold ab
    rw [e1]
    split <;> omega
  · refine ⟨ok_nm T' h0 hl (by omega) (by rw [el]; omega), kb, ka, lb, la, ?_, ⟨i, a, h0, h1, a0, a1, .inr ⟨rfl, rfl⟩⟩⟩
    rw [led_nm T t1 h0 h1, Dp_along T' h0 hl (by omega) (by rw [el]; omega) b0 (by rw [el]; exact b1)]
    unfold ab
    rw [e1]
    split <;> omega
theorem arm_scl {n : Int} {ps : List Pi} {d : Int → Int → Int} (T : Tm n ps d) {t : Int} (t1 : 1 ≤ t) {p b near : Pl} (h : Twd ps t p b near) : ∀ m : Nat, (m : Int) ≤ n → armTo (ps.map (scl t)) (sclD t d) (led t p) near m = t * armTo ps d p b m
  | 0, _ => by show (0 : Int) = t * 0; rw [Int.mul_zero]
  | m + 1, hm => by
    obtain ⟨k1, k2, k3, k4, k5, k6, k7⟩ := h.facts T t1
    have T' := T.scl t1
    have ih := arm_scl T t1 h m (by omega)
    have okr : okP n ps [(m : Int)] := ⟨by omega, by omega⟩
    have okr' : okP n (ps.map (scl t)) [(m : Int)] := ⟨by omega, by omega⟩
    have q1 : Dp (ps.map (scl t)) (sclD t d) (led t p) [(m : Int)] = t * Dp ps d p [(m : Int)] := Dp_scl t1 k2 okr
    have q2 : Dp (ps.map (scl t)) (sclD t d) (led t b) [(m : Int)] = t * Dp ps d b [(m : Int)] := Dp_scl t1 k3 okr
    have tri1 := Dp_le T' k1 k5 okr'
    have tri2 := Dp_le T' k5 k1 okr'
    rw [Dp_sym T' k5 k1, k6] at tri2
    rw [k6] at tri1
    have st := Dp_step T okr k7
    rw [Dp_sym T okr k2, Dp_sym T okr k3] at st
    have cond : (Dp (ps.map (scl t)) (sclD t d) near [(m : Int)] < Dp (ps.map (scl t)) (sclD t d) (led t p) [(m : Int)]) ↔ Dp ps d b [(m : Int)] < Dp ps d p [(m : Int)] := by
      rw [q1]
      rw [q2] at tri1 tri2
      rcases st with s | s
      · rw [s, Int.mul_add, Int.mul_one] at tri2
        constructor
        · intro z; omega
        · intro z; omega
      · rw [s, Int.mul_add, Int.mul_one]
        constructor
        · intro z; omega
        · intro z; omega
    unfold armTo
    rw [ih, q1]
    by_cases c : Dp ps d b [(m : Int)] < Dp ps d p [(m : Int)]
    · rw [if_pos c, if_pos (by rw [← q1]; exact cond.mpr c)]
      by_cases c2 : Dp ps d p [(m : Int)] > armTo ps d p b m
      · rw [if_pos c2, if_pos ((mul_lt t1).mpr c2)]
      · rw [if_neg c2, if_neg (fun z => c2 ((mul_lt t1).mp z))]
    · rw [if_neg c, if_neg (fun z => c (cond.mp (by rw [q1]; exact z)))]
end Rw

namespace Rw
open PySem PySem.Spec PyProof.Rows L2
theorem walk_enumT {K : PySem.W.Frag} {a : Addr} {xs : List V} : Walk (IteT K a) xs.length (fun H => SqT K H a xs) (YPair (fun i => some (.int (i : Nat))) (fun i => xs[i]?)) := by
  refine ⟨fun i _ hi q => ⟨xs, xs[i], q, by simp [hi]⟩, fun _ q => ⟨xs, q, Nat.le_refl _⟩, fun i H v H' _ q y => ?_⟩
  obtain ⟨T, x, z1, z2, z3, z4⟩ := y
  exact ⟨T, _, x, z1, z2, z3, rfl, z4 xs q⟩
theorem Keep.fr {H J : Hp} {p : Addr} (k : Keep [] H J) (n : J p = none) : H p = none := by
  cases e : H p with
  | none => rfl
  | some o => rw [k p o e List.not_mem_nil] at n; cases n
/-! a house, as the program is given it -/
structure HouseOk (n : Int) (ps : List Pi) : Prop where
  n1 : 1 ≤ n
  n2 : n ≤ 16
  len : (ps.length : Int) = n - 1
  ok : ∀ p ∈ ps, p.ok n
theorem HouseOk.at {n : Int} {ps : List Pi} (h : HouseOk n ps) {i : Nat} (hi : i < ps.length) : (pr ps (i : Int)).ok n ∧ ps[i]? = some (pr ps (i : Int)) := by
  have e := pr_mem (ps := ps) (i := (i : Int)) (by omega) (by omega)
  exact ⟨h.ok _ e.1, by rw [show ((i : Int)).toNat = i by omega] at e; exact e.2⟩
/-! ### the doors of each room -/
def doorRow (ps : List Pi) (r : Int) (j : Nat) : List (List Int) :=
  (if (pr ps (j : Int)).x = r then [[(j : Int), 0, (pr ps (j : Int)).y, (pr ps (j : Int)).l]] else []) ++ (if (pr ps (j : Int)).y = r then [[(j : Int), (pr ps (j : Int)).l, (pr ps (j : Int)).x, 0]] else [])
def doorsTo (ps : List Pi) (r : Int) (i : Nat) : List (List Int) := (List.range i).flatMap (doorRow ps r)
theorem doorsTo_succ (ps : List Pi) (r : Int) (i : Nat) : doorsTo ps r (i + 1) = doorsTo ps r i ++ doorRow ps r i := by
  unfold doorsTo
  rw [List.range_succ, List.flatMap_append]
  simp
/-! lists of rows of ints, each at its own address -/
def Rws (av : List Addr) (G : Hp) (ds : List Addr) (f : Nat → List (List Int)) (m : Nat) : Prop := ∀ (r : Nat) (a : Addr), ds[r]? = some a → ∃ ts, G a = some (.lst ts) ∧ Dts av G ts ((f r).map tupI) ∧ ts.length ≤ m
theorem Rws.new {av : List Addr} {G : Hp} {ds : List Addr} {f : Nat → List (List Int)} {m : Nat} {p : Addr} {o : HO} (h : Rws av G ds f m) (n : G p = none) : Rws av (upd G p o) ds f m := fun r a e => by
  obtain ⟨ts, h1, h2, h3⟩ := h r a e
  exact ⟨ts, by rw [upd_ne (ne_of_none h1 n)]; exact h1, h2.keep (Keep.new n), h3⟩
theorem Rws.less {av av' : List Addr} {G : Hp} {ds : List Addr} {f : Nat → List (List Int)} {m : Nat} (h : Rws av G ds f m) (s : ∀ a ∈ av', a ∈ av) : Rws av' G ds f m := fun r a e => by
  obtain ⟨ts, h1, h2, h3⟩ := h r a e
  exact ⟨ts, h1, h2.less s, h3⟩
theorem nodup_at {ds : List Addr} (nd : ds.Nodup) {r s : Nat} {a : Addr} (h : ds[r]? = some a) (h' : ds[s]? = some a) : r = s := by
  obtain ⟨h1, e1⟩ := List.getElem?_eq_some_iff.mp h
  obtain ⟨h2, e2⟩ := List.getElem?_eq_some_iff.mp h'
  exact (List.getElem_inj nd).mp (e1.trans e2.symm)
theorem dts_ints {av : List Addr} {H : Hp} (ns : List Int) : Dts av H (ns.map V.int) (ns.map PyData.int) := Dts.ints ns
theorem Rws.put {av : List Addr} {G : Hp} {ds : List Addr} {f : Nat → List (List Int)} {m : Nat} (h : Rws av G ds f m) (sub : ∀ a ∈ ds, a ∈ av) (nd : ds.Nodup) (tr : Tr av G) {r0 : Nat} {a0 t : Addr} {ts0 : List V} {ns : List Int} (e0 : ds[r0]? = some a0) (g0 : G a0 = some (.lst ts0)) (nt : G t = none) :
    Rws av (upd (upd G t (.tup (ns.map V.int))) a0 (.lst (ts0 ++ [.ref t]))) ds (fun r => if r = r0 then f r ++ [ns] else f r) (m + 1) := fun r a e => by
  have m0 : a0 ∈ av := sub a0 (List.mem_of_getElem? e0)
  obtain ⟨ts, h1, h2, h3⟩ := h r a e
  have h2' : Dts av (upd (upd G t (.tup (ns.map V.int))) a0 (.lst (ts0 ++ [.ref t]))) ts ((f r).map tupI) := (h2.keep (Keep.new nt)).keep (Keep.put m0)
  by_cases c : r = r0
  · subst c
    rw [e] at e0; cases e0
    rw [h1] at g0; cases g0
    refine ⟨ts0 ++ [.ref t], upd_same, ?_, by rw [List.length_append, List.length_singleton]; omega⟩
    show Dts _ _ _ (List.map tupI (if r = r then f r ++ [ns] else f r))
    rw [if_pos rfl, List.map_append]
    have nta : t ≠ a0 := (ne_of_none h1 nt).symm
    exact Dts.app h2' (.cons (.tup (tr.not nt) (by rw [upd_ne nta]; exact upd_same) (Dts.ints ns)) .nil)
  · have ne : a ≠ a0 := fun z => by subst z; exact c (nodup_at nd e e0)
    refine ⟨ts, by rw [upd_ne ne, upd_ne (ne_of_none h1 nt)]; exact h1, ?_, by omega⟩
    show Dts _ _ _ (List.map tupI (if r = r0 then f r ++ [ns] else f r))
    rw [if_neg c]; exact h2'
section
variable {P : Program} {w : World} {K : PySem.W.Frag} {mg : Str → Option Value} {base : Heap}
abbrev sDoors : Stmt := topS 2
abbrev nDoors : List Str := ["house", "rooms", "pipes", "room", "doors", "number", "pipe", "one", "other", "length"]
theorem scDoors : FnScope nDoors ["house"] (defScope sDoors) := ⟨rfl, rfl, rfl, by decide +kernel, rfl, by decide +kernel, by decide +kernel⟩
def spDoors : Sp := fun vs H Q _ => ∃ (h : V) (n : Int) (ps : List Pi) (av : List Addr), vs = [h] ∧ Dt av H h (houseD n (ps.map Pi.dat)) ∧ HouseOk n ps ∧ Tr av H ∧
  ∀ (H' : Hp) (Dl : Addr) (ds : List Addr), Keep [] H H' → H Dl = none → Dl ∉ av → (∀ a ∈ ds, a ∉ av) → Tr av H' → H' Dl = some (.lst (ds.map V.ref)) → (ds.length : Int) = n → Rws av H' ds (fun r => doorsTo ps (r : Int) ps.length) 100 → Q (.ref Dl) H'
theorem ok_doors (h : Has K mg "doors_of" sDoors) (B : Blt mg) : Can P w K mg base "doors_of" ["house"] 1 spDoors := by
  obtain ⟨f, fd, F, g⟩ := h
  refine ⟨f, fd, F.ok (k := 0) scDoors (fun vs H Q E h => ?_) (fun cdv A outer s H vs Q E hr h => ?_), g, F.kp, F.binds fun _ _ _ _ _ _ us hl => match us, hl with | [_], _ => rfl⟩
  · obtain ⟨h, n, ps, av, rfl, _⟩ := h
    rfl
  · obtain ⟨h, n, ps, av, rfl, hh, hk, tr, q⟩ := h
    have n1 := hk.n1
    have n2 := hk.n2
    have ln := hk.len
    refine ⟨_, pss_cons (ps_asg (pv 0) (pg_tup (by rfl) (pgs_cons (pg_name (i := 1) scDoors.nd rfl (by first | exact Or.inl rfl | exact Or.inr rfl)) (pgs_cons (pg_name (i := 2) scDoors.nd rfl (by first | exact Or.inl rfl | exact Or.inr rfl)) pgs_nil))))
      (pss_cons (ps_setLc (i := 4) (own := [("room", 3)]) (g := gName 3) (tt := tYes) rfl scDoors.nd rfl rfl (sw_true rfl rfl rfl (by decide +kernel)) (pi_range1 (by rfl) B.range_ (pa_cons (pv 1) pa_nil)) (blkOk_by (N := nDoors) (sc := defScope sDoors) (by decide +kernel)) (fun _ _ _ _ _ => (pg_name (i := 3) scDoors.nd rfl (by first | exact Or.inl rfl | exact Or.inr rfl))) (fun _ _ _ _ _ => pts_nil) (fun _ _ _ _ _ => (pe_lst pa_nil)))
      (pss_cons (ps_for PassesOwn.never rfl (pi_enumT (by rfl) B.enum_ (pa_cons (pv 2) pa_nil)) (pg_tup (by rfl) (pgs_cons (pg_name (i := 5) scDoors.nd rfl (by first | exact Or.inl rfl | exact Or.inr rfl)) (pgs_cons (pg_name (i := 6) scDoors.nd rfl (by first | exact Or.inl rfl | exact Or.inr rfl)) pgs_nil)))
      (pss_cons (ps_asg (pe_slice sl_tup (pv 6) po_none (po_some pe_int)) (pg_tup (by rfl) (pgs_cons (pg_name (i := 7) scDoors.nd rfl (by first | exact Or.inl rfl | exact Or.inr rfl)) (pgs_cons (pg_name (i := 8) scDoors.nd rfl (by first | exact Or.inl rfl | exact Or.inr rfl)) (pgs_cons (pg_name (i := 9) scDoors.nd rfl (by first | exact Or.inl rfl | exact Or.inr rfl)) pgs_nil)))))
      (pss_cons (ps_expr (pe_bm PySem.F.plainAttrs_list PySem.F.slot_list_append PySem.F.type_list_append mt_append (pe_ix ix_list (pv 4) (pv 7) (fun _ _ => rfl)) (pa_cons (pe_tup (pa_cons (pv 5) (pa_cons pe_int (pa_cons (pv 8) (pa_cons (pv 9) pa_nil))))) pa_nil)))
      (pss_one (ps_expr (pe_bm PySem.F.plainAttrs_list PySem.F.slot_list_append PySem.F.type_list_append mt_append (pe_ix ix_list (pv 4) (pv 8) (fun _ _ => rfl)) (pa_cons (pe_tup (pa_cons (pv 5) (pa_cons (pv 9) (pa_cons (pv 7) (pa_cons pe_int pa_nil))))) pa_nil)))))))
      (pss_one (ps_ret (pv 4))))), ?_⟩
    obtain ⟨ah, ap, xp, rfl, na, ea, nb, eb, db⟩ := house_parts hh
    refine ⟨.ref ah, rfl, ah, [.int n, .ref ap], rfl, SqT.of ea, rfl, _, _, rfl, _, [], rfl, rfl, ?_⟩
    -- a list of empty lists
    refine ⟨.int n, rfl, n, rfl, by omega, by omega, fun Dl nD => ?_⟩
    refine lc_range (lo := 0) (n := n.toNat) (fun i J => Keep [] H J ∧ ∃ ds : List Addr, ds.length = i ∧ ds.Nodup ∧ (∀ a ∈ ds, H a = none ∧ J a = some (.lst [])) ∧ Dl ∉ ds ∧ J Dl = some (.lst (ds.map V.ref)))
      ⟨Keep.new nD, [], rfl, List.nodup_nil, fun _ z => absurd z List.not_mem_nil, List.not_mem_nil, upd_same⟩ (fun i J hi p => ?_) (fun J p => ?_)
    · obtain ⟨k1, ds, l1, nd, al, nl, eD⟩ := p
      refine ⟨rfl, show 0 ≤ sizeLine by decide, fun p np => ⟨ds.map V.ref, ?_, ?_, ?_, ds ++ [p], ?_, ?_, ?_, ?_, ?_⟩⟩
      · rw [upd_ne (ne_of_none eD np)]; exact eD
      · rw [List.length_map, l1]; exact small1000 (by omega)
      · exact (k1.trans (Keep.new np)).upd nD
      · rw [List.length_append, l1]; rfl
      · refine List.nodup_append.mpr ⟨nd, by simp, fun a ha b hb e => ?_⟩
        rw [List.mem_singleton.mp hb] at e
        rw [e] at ha
        rw [(al p ha).2] at np; cases np
      · intro a ha
        have npD : p ≠ Dl := (ne_of_none eD np).symm
        rcases List.mem_append.mp ha with ha | ha
        · have e := al a ha
          have na' : a ≠ Dl := fun z => nl (z ▸ ha)
          exact ⟨e.1, by rw [upd_ne na', upd_ne (ne_of_none e.2 np)]; exact e.2⟩
        · rw [List.mem_singleton.mp ha]
          exact ⟨k1.fr np, by rw [upd_ne npD]; exact upd_same⟩
      · intro m
        rcases List.mem_append.mp m with m | m
        · exact nl m
        · exact (ne_of_none eD np) (List.mem_singleton.mp m)
      · rw [upd_same, List.map_append]; rfl
    · obtain ⟨k1, ds, l1, nd, al, nl, eD⟩ := p
      have fD : H Dl = none := nD
      have trJ : Tr (Dl :: ds ++ av) J := fun a m => by
        rcases List.mem_append.mp m with m | m
        · rcases List.mem_cons.mp m with m | m
          · rw [m]; exact ⟨_, eD⟩
          · exact ⟨_, (al a m).2⟩
        · obtain ⟨o, e⟩ := tr a m
          exact ⟨o, k1 a o e List.not_mem_nil⟩
      have ebJ := k1 ap _ eb List.not_mem_nil
      refine ⟨.ref ap, rfl, ap, xp, rfl, SqT.of ebJ, for_it (walk_enumT (K := K) (a := ap) (xs := xp))
        (fun i σ G => ∃ s3 s5 s6 s7 s8 s9, σ = [some (.ref ah), some (.int n), some (.ref ap), s3, some (.ref Dl), s5, s6, s7, s8, s9] ∧ Keep [] H G ∧ Tr (Dl :: ds ++ av) G ∧ G Dl = some (.lst (ds.map V.ref)) ∧ Rws (Dl :: ds ++ av) G ds (fun r => doorsTo ps (r : Int) i) (2 * i))
        ⟨_, _, _, _, _, _, rfl, k1, trJ, eD, fun r a e => ⟨[], (al a (List.mem_of_getElem? e)).2, .nil, Nat.zero_le _⟩⟩ (fun i σ G _ p => ?_) (fun i x σ G G' hi p y => ?_) (fun σ G p => ?_)⟩
      · obtain ⟨_, _, _, _, _, _, _, kG, _⟩ := p
        exact SqT.of (kG ap _ eb List.not_mem_nil)
      · obtain ⟨s3, s5, s6, s7, s8, s9, rfl, kG, tG, eG, rG⟩ := p
        obtain ⟨T0, x1, y1, rfl, nT, rfl, hx1, hy1⟩ := y
        cases hx1
        have xl : xp.length = ps.length := by rw [db.len, List.length_map]
        have hi' : i < ps.length := by omega
        obtain ⟨pok, pg⟩ := hk.at hi'
        have dbG := db.keep (kG.of)
        obtain ⟨pp, pa, T1, T2, _, gp, ga, epa⟩ := pi_at dbG (i := (i : Int)) (by omega) (by omega)
        have epp : pp = pr ps (i : Int) := by
          rw [show ((i : Int)).toNat = i by omega, pg] at gp
          exact (Option.some.inj gp).symm
        subst epp
        have ey1 : y1 = .ref pa := by
          have w : atI xp (i : Int) = some y1 := atI_nat hy1
          rw [w] at ga; exact Option.some.inj ga
        subst ey1
        obtain ⟨X, hX⟩ : ∃ X, (pr ps (i : Int)).x = X := ⟨_, rfl⟩
        obtain ⟨Y, hY⟩ : ∃ X, (pr ps (i : Int)).y = X := ⟨_, rfl⟩
        obtain ⟨L, hL⟩ : ∃ X, (pr ps (i : Int)).l = X := ⟨_, rfl⟩
        have p1 := pok.x0; have p2 := pok.x1; have p3 := pok.y0; have p4 := pok.y1; have p5 := pok.xy
        rw [hX] at p1 p2 p5; rw [hY] at p3 p4 p5
        rw [hX, hY, hL] at epa
        refine ⟨T0, [.int (i : Nat), .ref pa], rfl, SqT.of upd_same, rfl, _, _, rfl, _, [], rfl, rfl, ?_⟩
        have npa : pa ≠ T0 := ne_of_none epa nT
        refine ⟨.ref pa, rfl, 3, rfl, pa, [.int X, .int Y, .int L, .ref T1, .ref T2], rfl, SqT.of (show (upd G T0 _) pa = _ by rw [upd_ne npa]; exact epa), show ¬ (HT.sIx 5 0 none = 0 ∧ HT.sIx 5 5 (some 3) = 5) by decide +kernel, fun T3 nT3 => ?_⟩
        refine ⟨T3, [.int X, .int Y, .int L], rfl, SqT.of (upd_same.trans (congrArg some (congrArg HO.tup (cut_to _ 3)))), rfl, _, _, rfl, _, _, rfl, _, [], rfl, rfl, ?_⟩
        rw [show cutV [V.int X, .int Y, .int L, .ref T1, .ref T2] none (some 3) = [.int X, .int Y, .int L] from cut_to _ 3]
        have kJ : Keep [] H (upd (upd G T0 (.tup [.int (i : Nat), .ref pa])) T3 (.tup [.int X, .int Y, .int L])) := kG.trans ((Keep.new nT).trans (Keep.new nT3))
        have tJ : Tr (Dl :: ds ++ av) (upd (upd G T0 (.tup [.int (i : Nat), .ref pa])) T3 (.tup [.int X, .int Y, .int L])) := (tG.upd).upd
        have eJ : (upd (upd G T0 (.tup [.int (i : Nat), .ref pa])) T3 (.tup [.int X, .int Y, .int L])) Dl = some (.lst (ds.map V.ref)) := Keep.new (av := []) nT3 _ _ (Keep.new (av := []) nT _ _ eG List.not_mem_nil) List.not_mem_nil
        have rJ := (rG.new (o := .tup [.int (i : Nat), .ref pa]) nT).new (o := .tup [.int X, .int Y, .int L]) nT3
        generalize upd (upd G T0 (.tup [.int (i : Nat), .ref pa])) T3 (.tup [.int X, .int Y, .int L]) = J2 at kJ tJ eJ rJ ⊢
        have dl : ds.length = n.toNat := l1
        obtain ⟨a, ga⟩ : ∃ a, ds[X.toNat]? = some a := ⟨_, List.getElem?_eq_getElem (by omega)⟩
        obtain ⟨b, gb⟩ : ∃ b, ds[Y.toNat]? = some b := ⟨_, List.getElem?_eq_getElem (by omega)⟩
        obtain ⟨ts, e1, e2, e3⟩ := rJ X.toNat a ga
        have sub : ∀ z ∈ ds, z ∈ Dl :: ds ++ av := fun z m => List.mem_append_left _ (List.mem_cons_of_mem _ m)
        have aD : a ≠ Dl := fun z => nl (z ▸ List.mem_of_getElem? ga)
        have bD : b ≠ Dl := fun z => nl (z ▸ List.mem_of_getElem? gb)
        refine ⟨.ref Dl, rfl, .int X, rfl, Dl, _, X, .ref a, rfl, rfl, SqL.of eJ, atI_of p1 (by rw [List.getElem?_map, ga]; rfl), .inl ⟨rfl, _, SqL.of e1⟩, .int (i : Nat), rfl, .int Y, rfl, .int L, rfl, show 4 ≤ sizeLine by decide, fun t nt => ?_⟩
        have at1 : (upd J2 t (.tup [.int (i : Nat), .int 0, .int Y, .int L])) a = some (.lst ts) := by rw [upd_ne (ne_of_none e1 nt)]; exact e1
        refine ⟨a, ts, .ref t, rfl, rfl, at1, Nat.lt_of_le_of_lt e3 (small1000 (by omega)), ?_⟩
        have rK := rJ.put sub nd tJ (ns := [(i : Int), 0, Y, L]) ga e1 nt
        have ha : H a = none := (al a (List.mem_of_getElem? ga)).1
        have hb : H b = none := (al b (List.mem_of_getElem? gb)).1
        have kK : Keep [] H (upd (upd J2 t (.tup [.int (i : Nat), .int 0, .int Y, .int L])) a (.lst (ts ++ [.ref t]))) := (kJ.trans (Keep.new nt)).upd ha
        have tK : Tr (Dl :: ds ++ av) (upd (upd J2 t (.tup [.int (i : Nat), .int 0, .int Y, .int L])) a (.lst (ts ++ [.ref t]))) := (tJ.upd).upd
        have eK : (upd (upd J2 t (.tup [.int (i : Nat), .int 0, .int Y, .int L])) a (.lst (ts ++ [.ref t]))) Dl = some (.lst (ds.map V.ref)) := by
          rw [upd_ne aD.symm, upd_ne (ne_of_none eJ nt)]; exact eJ
        have rK' : Rws (Dl :: ds ++ av) (upd (upd J2 t (.tup [.int (i : Nat), .int 0, .int Y, .int L])) a (.lst (ts ++ [.ref t]))) ds (fun r => if r = X.toNat then doorsTo ps (r : Int) i ++ [[(i : Int), 0, Y, L]] else doorsTo ps (r : Int) i) (2 * i + 1) := rK
        generalize upd (upd J2 t (.tup [.int (i : Nat), .int 0, .int Y, .int L])) a (.lst (ts ++ [.ref t])) = J3 at kK tK eK rK' ⊢
        obtain ⟨us, f1, f2, f3⟩ := rK' Y.toNat b gb
        refine ⟨.ref Dl, rfl, .int Y, rfl, Dl, _, Y, .ref b, rfl, rfl, SqL.of eK, atI_of p3 (by rw [List.getElem?_map, gb]; rfl), .inl ⟨rfl, _, SqL.of f1⟩, .int (i : Nat), rfl, .int L, rfl, .int X, rfl, show 4 ≤ sizeLine by decide, fun u nu => ?_⟩
        have at2 : (upd J3 u (.tup [.int (i : Nat), .int L, .int X, .int 0])) b = some (.lst us) := by rw [upd_ne (ne_of_none f1 nu)]; exact f1
        refine ⟨b, us, .ref u, rfl, rfl, at2, Nat.lt_of_le_of_lt f3 (small1000 (by omega)), ?_⟩
        have rM := rK'.put sub nd tK (ns := [(i : Int), L, X, 0]) gb f1 nu
        refine ⟨_, _, _, _, _, _, rfl, (kK.trans (Keep.new nu)).upd hb, (tK.upd).upd, ?_, fun r z gz => ?_⟩
        · rw [upd_ne bD.symm, upd_ne (ne_of_none eK nu)]; exact eK
        · obtain ⟨vs, v1, v2, v3⟩ := rM r z gz
          refine ⟨vs, v1, ?_, by omega⟩
          have er : (if r = Y.toNat then (if r = X.toNat then doorsTo ps (r : Int) i ++ [[(i : Int), 0, Y, L]] else doorsTo ps (r : Int) i) ++ [[(i : Int), L, X, 0]] else (if r = X.toNat then doorsTo ps (r : Int) i ++ [[(i : Int), 0, Y, L]] else doorsTo ps (r : Int) i)) = doorsTo ps (r : Int) (i + 1) := by
            rw [doorsTo_succ]
            unfold doorRow
            rw [hX, hY, hL]
            by_cases c1 : r = X.toNat
            · have c2 : ¬ r = Y.toNat := by omega
              rw [if_neg c2, if_pos c1, if_pos (show X = (r : Int) by omega), if_neg (show ¬ Y = (r : Int) by omega)]; simp
            · by_cases c2 : r = Y.toNat
              · rw [if_pos c2, if_neg c1, if_neg (show ¬ X = (r : Int) by omega), if_pos (show Y = (r : Int) by omega)]; simp
              · rw [if_neg c2, if_neg c1, if_neg (show ¬ X = (r : Int) by omega), if_neg (show ¬ Y = (r : Int) by omega)]; simp
          show Dts _ _ _ (List.map tupI (doorsTo ps (r : Int) (i + 1)))
          rw [← er]; exact v2
      · obtain ⟨s3, s5, s6, s7, s8, s9, rfl, kG, tG, eG, rG⟩ := p
        have xl : xp.length = ps.length := by rw [db.len, List.length_map]
        rw [xl] at rG
        have tv : Tr av G := fun a m => tG a (List.mem_append_right _ m)
        refine ⟨.ref Dl, rfl, q G Dl ds kG fD (tr.not fD) (fun a m => tr.not (al a m).1) tv eG (by omega) ?_⟩
        intro r a e
        obtain ⟨ts, h1, h2, h3⟩ := rG r a e
        exact ⟨ts, h1, h2.less fun z m => List.mem_append_right _ m, by omega⟩
end
end Rw

namespace Rw
open PySem PySem.Spec PyProof.Rows L2
/-! ### how far all rooms lie from one -/
theorem pigeon : ∀ (n : Nat) (F : List Int), F.Nodup → (∀ t ∈ F, 0 ≤ t ∧ t < n) → F.length ≤ n
  | 0, [], _, _ => Nat.le_refl _
  | 0, t :: _, _, h => by have := h t List.mem_cons_self; omega
  | n + 1, F, nd, h => by
    by_cases m : (n : Int) ∈ F
    · have e := List.length_erase_of_mem m
      have := pigeon n (F.erase (n : Int)) (nd.erase _) (fun t ht => by
        have z := (nd.mem_erase_iff).mp ht
        have := h t z.2
        have := z.1
        omega)
      omega
    · have := pigeon n F nd (fun t ht => by
        have := h t ht
        have : t ≠ n := fun z => m (z ▸ ht)
        omega)
      omega
theorem mem_doors {ps : List Pi} {u : Int} {m : Nat} {row : List Int} : row ∈ doorsTo ps u m ↔ ∃ j : Nat, j < m ∧ (((pr ps (j : Int)).x = u ∧ row = [(j : Int), 0, (pr ps (j : Int)).y, (pr ps (j : Int)).l]) ∨ ((pr ps (j : Int)).y = u ∧ row = [(j : Int), (pr ps (j : Int)).l, (pr ps (j : Int)).x, 0])) := by
  unfold doorsTo
  rw [List.mem_flatMap]
  constructor
  · rintro ⟨j, hj, h⟩
    refine ⟨j, List.mem_range.mp hj, ?_⟩
    unfold doorRow at h
    rcases List.mem_append.mp h with h | h
    · split at h
      · rename_i e; exact .inl ⟨e, List.mem_singleton.mp h⟩
      · cases h
    · split at h
      · rename_i e; exact .inr ⟨e, List.mem_singleton.mp h⟩
      · cases h
  · rintro ⟨j, hj, h⟩
    refine ⟨j, List.mem_range.mpr hj, ?_⟩
    unfold doorRow
    rcases h with ⟨e, h⟩ | ⟨e, h⟩
    · rw [if_pos e, h]; exact List.mem_append_left _ List.mem_cons_self
    · rw [if_pos e, h]; exact List.mem_append_right _ List.mem_cons_self
/-! a row as towards has it: of a room, the door that leads nearer to r -/
def TowRow (ps : List Pi) (d : Int → Int → Int) (r t : Int) (row : List Int) : Prop :=
  ∃ (i : Nat) (p : Pi), ps[i]? = some p ∧ ((row = [(i : Int), 0, p.y, p.l] ∧ p.x = t ∧ d r p.y + p.l = d r t) ∨ (row = [(i : Int), p.l, p.x, 0] ∧ p.y = t ∧ d r p.x + p.l = d r t))
def TowE (av : List Addr) (G : Hp) (kw : List (Key × V)) (F : List Int) (ps : List Pi) (d : Int → Int → Int) (r : Int) : Prop :=
  ∀ t ∈ F, t ≠ r → ∃ (T : Addr) (row : List Int), valV kw (Sum.inl t) = some (.ref T) ∧ T ∉ av ∧ G T = some (.tup (row.map V.int)) ∧ TowRow ps d r t row
theorem TowE.keep {av : List Addr} {G G' : Hp} {kw : List (Key × V)} {F : List Int} {ps : List Pi} {d : Int → Int → Int} {r : Int} (h : TowE av G kw F ps d r) (k : ∀ b xs, G b = some (.tup xs) → G' b = some (.tup xs)) : TowE av G' kw F ps d r := fun t ht nt => by
  obtain ⟨T, row, h1, h2, h3, h4⟩ := h t ht nt
  exact ⟨T, row, h1, h2, k T _ h3, h4⟩
theorem keepTup {G : Hp} {b : Addr} {o u : HO} (e : G b = some o) (ho : ∀ xs, o ≠ .tup xs) : ∀ c xs, G c = some (.tup xs) → (upd G b u) c = some (.tup xs) := fun c xs ec => by
  have : c ≠ b := fun z => by rw [z, e] at ec; exact ho xs (Option.some.inj ec)
  rw [upd_ne this]; exact ec
theorem keepTupN {G : Hp} {b : Addr} {u : HO} (e : G b = none) : ∀ c xs, G c = some (.tup xs) → (upd G b u) c = some (.tup xs) := fun c xs ec => by
  rw [upd_ne (ne_of_none ec e)]; exact ec
def GapsAt (H : Hp) (g : Addr) (n : Int) (d : Int → Int → Int) (r : Int) : Prop := ∃ kvs, H g = some (.dK kvs) ∧ ∀ t, 0 ≤ t → t < n → valV kvs (Sum.inl t) = some (.int (d r t))
def TowAt (av : List Addr) (H : Hp) (w : Addr) (n : Int) (ps : List Pi) (d : Int → Int → Int) (r : Int) : Prop := ∃ kvs, H w = some (.dK kvs) ∧ TowE av H kvs (start n.toNat) ps d r
/-! what was found so far, what waits, but for here what was gone through is closed -/
structure SS (n : Int) (ps : List Pi) (d : Int → Int → Int) (r : Int) (F td ex : List Int) : Prop where
  nd : F.Nodup
  rg : ∀ t ∈ F, 0 ≤ t ∧ t < n
  src : r ∈ F
  sub : ∀ t ∈ td, t ∈ F
  few : td.length ≤ F.length
  par : Pard r (d r) (RE ps) F
  cl : ∀ u ∈ F, u ∉ td → u ∉ ex → ∀ v w, RE ps u v w → v ∈ F
theorem SS.first {n : Int} {ps : List Pi} {d : Int → Int → Int} {r : Int} (r0 : 0 ≤ r) (r1 : r < n) : SS n ps d r [r] [r] [] where
  nd := by simp
  rg := fun t ht => by rw [List.mem_singleton.mp ht]; exact ⟨r0, r1⟩
  src := List.mem_cons_self
  sub := fun t ht => ht
  few := Nat.le_refl _
  par := fun v hv nv => absurd (List.mem_singleton.mp hv) nv
  cl := fun u hu nu => absurd hu nu
theorem SS.pop {n : Int} {ps : List Pi} {d : Int → Int → Int} {r h : Int} {F td : List Int} (S : SS n ps d r F (td ++ [h]) []) : SS n ps d r F td [h] where
  nd := S.nd
  rg := S.rg
  src := S.src
  sub := fun t ht => S.sub t (List.mem_append_left _ ht)
  few := by have := S.few; rw [List.length_append] at this; omega
  par := S.par
  cl := fun u hu n1 n2 => S.cl u hu (fun m => (List.mem_append.mp m).elim n1 n2) List.not_mem_nil
theorem SS.add {n : Int} {ps : List Pi} {d : Int → Int → Int} {r h v w : Int} {F td : List Int} (T : Tm n ps d) (S : SS n ps d r F td [h]) (hh : h ∈ F) (nv : v ∉ F) (e : RE ps h v w) : SS n ps d r (F ++ [v]) (td ++ [v]) [h] ∧ d r v = d r h + w := by
  have rr := S.rg r S.src
  have R := T.rooms rr.1 rr.2
  have dv := R.found S.par hh (S.rg h hh) e nv
  refine ⟨⟨?_, ?_, List.mem_append_left _ S.src, ?_, by have := S.few; rw [List.length_append, List.length_append]; exact Nat.add_le_add_right this _, S.par.snoc hh (R.sym _ _ _ e) dv, ?_⟩, dv⟩
  · refine List.nodup_append.mpr ⟨S.nd, by simp, fun a ha b hb z => ?_⟩
    rw [List.mem_singleton.mp hb] at z
    exact nv (z ▸ ha)
  · intro t ht
    rcases List.mem_append.mp ht with m | m
    · exact S.rg t m
    · rw [List.mem_singleton.mp m]; exact R.cl _ _ _ (S.rg h hh) e
  · intro t ht
    rcases List.mem_append.mp ht with m | m
    · exact List.mem_append_left _ (S.sub t m)
    · exact List.mem_append_right _ m
  · intro u hu n1 n2 x y ex
    rcases List.mem_append.mp hu with m | m
    · exact List.mem_append_left _ (S.cl u m (fun z => n1 (List.mem_append_left _ z)) n2 x y ex)
    · exact absurd (List.mem_append_right _ m) n1
theorem SS.done {n : Int} {ps : List Pi} {d : Int → Int → Int} {r h : Int} {F td : List Int} (S : SS n ps d r F td [h]) (hc : ∀ v w, RE ps h v w → v ∈ F) : SS n ps d r F td [] where
  nd := S.nd
  rg := S.rg
  src := S.src
  sub := S.sub
  few := S.few
  par := S.par
  cl := fun u hu n1 _ v w e => by
    by_cases z : u = h
    · rw [z] at e; exact hc v w e
    · exact S.cl u hu n1 (fun m => z (List.mem_singleton.mp m)) v w e
theorem SS.all {n : Int} {ps : List Pi} {d : Int → Int → Int} {r : Int} {F : List Int} (T : Tm n ps d) (S : SS n ps d r F [] []) {t : Int} (t0 : 0 ≤ t) (t1 : t < n) : t ∈ F := by
  have rr := S.rg r S.src
  exact (T.rooms rr.1 rr.2).all S.src (fun u hu v w e => S.cl u hu List.not_mem_nil List.not_mem_nil v w e) _ t ⟨t0, t1⟩ (Nat.lt_succ_self _)
/-! the dicts: gaps has just what was found -/
def GapE (kg : List (Key × V)) (F : List Int) (d : Int → Int → Int) (r : Int) : Prop := kg.length = F.length ∧ (∀ t ∈ F, valV kg (Sum.inl t) = some (.int (d r t))) ∧ ∀ t, t ∉ F → valV kg (Sum.inl t) = none
theorem GapE.put {kg : List (Key × V)} {F : List Int} {d : Int → Int → Int} {r v : Int} (h : GapE kg F d r) (nv : v ∉ F) : GapE (putK kg (Sum.inl v) (.int (d r v))) (F ++ [v]) d r := by
  obtain ⟨h1, h2, h3⟩ := h
  refine ⟨?_, fun t ht => ?_, fun t ht => ?_⟩
  · rw [putK_new _ (h3 v nv), List.length_append, List.length_append, h1]; rfl
  · rw [valV_put]
    by_cases e : t = v
    · rw [e, if_pos rfl]
    · rw [if_neg (fun z => e (Sum.inl.inj z))]
      rcases List.mem_append.mp ht with m | m
      · exact h2 t m
      · exact absurd (List.mem_singleton.mp m) e
  · rw [valV_put, if_neg (fun z => ht (by rw [Sum.inl.inj z]; exact List.mem_append_right _ List.mem_cons_self))]
    exact h3 t (fun z => ht (List.mem_append_left _ z))
theorem Dts.unints {av : List Addr} {H : Hp} : ∀ {xs : List V} {ns : List Int}, Dts av H xs (ns.map PyData.int) → xs = ns.map V.int
  | _, [], h => by cases h; rfl
  | _, n :: ns, h => by
    cases h with
    | cons h1 h2 => cases h1; rw [Dts.unints h2]; rfl
theorem tupI_at {av : List Addr} {H : Hp} {v : V} {ns : List Int} (h : Dt av H v (tupI ns)) : ∃ a, v = .ref a ∧ a ∉ av ∧ H a = some (.tup (ns.map V.int)) := by
  unfold tupI at h
  cases h with
  | tup n e d => rw [d.unints] at e; exact ⟨_, rfl, n, e⟩
section
variable {P : Program} {w : World} {K : PySem.W.Frag} {mg : Str → Option Value} {base : Heap}
abbrev sSpread : Stmt := topS 3
abbrev nSpread : List Str := ["doors", "room", "gaps", "towards", "todo", "here", "pipe", "at", "beyond", "far"]
theorem scSpread : FnScope nSpread ["doors", "room"] (defScope sSpread) := ⟨rfl, rfl, rfl, by decide +kernel, rfl, by decide +kernel, by decide +kernel⟩
def spSpread : Sp := fun vs H Q _ => ∃ (Dl : Addr) (ds : List Addr) (n r : Int) (ps : List Pi) (d : Int → Int → Int) (av : List Addr), vs = [.ref Dl, .int r] ∧ H Dl = some (.lst (ds.map V.ref)) ∧ (ds.length : Int) = n ∧
  Rws av H ds (fun r => doorsTo ps (r : Int) ps.length) 100 ∧ HouseOk n ps ∧ Tm n ps d ∧ 0 ≤ r ∧ r < n ∧ Tr av H ∧
  ∀ (H' : Hp) (t g w : Addr), Keep [] H H' → Tr av H' → t ∉ av → g ∉ av → w ∉ av → H' t = some (.tup [.ref g, .ref w]) → GapsAt H' g n d r → TowAt av H' w n ps d r → Q (.ref t) H'
theorem ok_spread (h : Has K mg "spread_from" sSpread) (B : Blt mg) : Can P w K mg base "spread_from" ["doors", "room"] 1 spSpread := by
  obtain ⟨f, fd, F, g⟩ := h
  refine ⟨f, fd, F.ok (k := 0) scSpread (fun vs H Q E h => ?_) (fun cdv A outer s H vs Q E hr h => ?_), g, F.kp, F.binds fun _ _ _ _ _ _ us hl => match us, hl with | [_, _], _ => rfl⟩
  · obtain ⟨Dl, ds, n, r, ps, d, av, rfl, _⟩ := h
    rfl
  · obtain ⟨Dl, ds, n, r, ps, d, av, rfl, eD, dl, rw0, hk, T, r0, r1, tr, q⟩ := h
    have n2 := hk.n2
    refine ⟨_, pss_cons (ps_set (i := 2) scSpread.nd rfl (by first | exact Or.inl rfl | exact Or.inr rfl) (pe_disp (pps_cons (pv 1) pe_int pps_nil) (by rfl) (by rfl) (fun z => by cases z) (by decide)))
      (pss_cons (ps_set (i := 3) scSpread.nd rfl (by first | exact Or.inl rfl | exact Or.inr rfl) pe_dnewK)
      (pss_cons (ps_set (i := 4) scSpread.nd rfl (by first | exact Or.inl rfl | exact Or.inr rfl) (pe_lst (pa_cons (pv 1) pa_nil)))
      (pss_cons (ps_while PassesOwn.never (pt_truth (pv 4) (by intro _; rfl))
      (pss_cons (ps_set (i := 5) scSpread.nd rfl (by first | exact Or.inl rfl | exact Or.inr rfl) (pe_bm0 PySem.F.plainAttrs_list PySem.F.slot_list_pop PySem.F.type_list_pop mt_pop (pv 4)))
      (pss_one (ps_for PassesOwn.never rfl (pi_list (pe_ix ix_list (pv 0) (pv 5) (fun _ _ => rfl))) (pg_tup (by rfl) (pgs_cons (pg_name (i := 6) scSpread.nd rfl (by first | exact Or.inl rfl | exact Or.inr rfl)) (pgs_cons (pg_name (i := 7) scSpread.nd rfl (by first | exact Or.inl rfl | exact Or.inr rfl)) (pgs_cons (pg_name (i := 8) scSpread.nd rfl (by first | exact Or.inl rfl | exact Or.inr rfl)) (pgs_cons (pg_name (i := 9) scSpread.nd rfl (by first | exact Or.inl rfl | exact Or.inr rfl)) pgs_nil)))))
      (pss_one (ps_if (pt_cmp (pc_dnotin (hu_of hr) (pv 8) (pv 2))) (pss_cons (ps_dput (hu_of hr) (pv 2) (pv 8) (pe_op op_add (pe_dget (hu_of hr) (pv 2) (pv 5) (fun _ _ => rfl)) (pe_callB call_abs (by rfl) B.abs_ boot_abs (pa_cons (pe_op op_sub (pv 9) (pv 7)) pa_nil))) rfl)
      (pss_cons (ps_dput (hu_of hr) (pv 3) (pv 8) (pe_tup (pa_cons (pv 6) (pa_cons (pv 9) (pa_cons (pv 5) (pa_cons (pv 7) pa_nil))))) rfl)
      (pss_one (ps_expr (pe_bm PySem.F.plainAttrs_list PySem.F.slot_list_append PySem.F.type_list_append mt_append (pv 4) (pa_cons (pv 8) pa_nil)))))) pss_nil))))))
      (pss_one (ps_ret (pe_tup (pa_cons (pv 2) (pa_cons (pv 3) pa_nil)))))))), ?_⟩
    refine fun g ng => ⟨.int r, rfl, upd_same, [(Sum.inl r, .int 0)], rfl, by show 1 ≤ 15; decide, ?_⟩
    have eg0 : (upd (upd H g (.dK [])) g (.dK (mergeK [] [(Sum.inl r, V.int 0)]))) = upd H g (.dK [(Sum.inl r, V.int 0)]) := by rw [upd_upd]; rfl
    rw [eg0]
    refine fun w nw => ?_
    refine ⟨.int r, rfl, show 1 ≤ sizeLine by decide, fun td ntd => ?_⟩
    have ngw : g ≠ w := ne_of_none (upd_same (H := H) (a := g) (o := .dK [(Sum.inl r, V.int 0)])) nw
    have ew0 : (upd (upd H g (.dK [(Sum.inl r, V.int 0)])) w (.dK [])) w = some (.dK []) := upd_same
    have eg1 : (upd (upd H g (.dK [(Sum.inl r, V.int 0)])) w (.dK [])) g = some (.dK [(Sum.inl r, V.int 0)]) := by rw [upd_ne ngw]; exact upd_same
    have ngt : g ≠ td := ne_of_none eg1 ntd
    have nwt : w ≠ td := ne_of_none ew0 ntd
    have k0 : Keep [] H (upd (upd (upd H g (.dK [(Sum.inl r, V.int 0)])) w (.dK [])) td (.lst [.int r])) := (Keep.new ng).trans ((Keep.new nw).trans (Keep.new ntd))
    have fg : H g = none := ng
    have fw : H w = none := (Keep.new (av := []) ng).fr nw
    have ft : H td = none := ((Keep.new (av := []) ng).trans (Keep.new nw)).fr ntd
    refine ⟨fun m σ G => ∃ (F tds : List Int) (kg kw : List (Key × V)) (s5 s6 s7 s8 s9 : Option V), σ = [some (.ref Dl), some (.int r), some (.ref g), some (.ref w), some (.ref td), s5, s6, s7, s8, s9] ∧ Keep [] H G ∧ G g = some (.dK kg) ∧ G w = some (.dK kw) ∧ G td = some (.lst (tds.map V.int)) ∧
      SS n ps d r F tds [] ∧ GapE kg F d r ∧ TowE av G kw F ps d r ∧ kw.length ≤ F.length ∧ m = 2 * (16 - F.length) + tds.length, ⟨_, [r], [r], [(Sum.inl r, .int 0)], [], none, none, none, none, none, rfl, k0, ?_, ?_, upd_same, SS.first r0 r1, ⟨rfl, fun t ht => ?_, fun t ht => ?_⟩, fun t ht nt => absurd (List.mem_singleton.mp ht) nt, Nat.zero_le _, rfl⟩, fun m σ G p => ?_⟩
    · rw [upd_ne ngt]; exact eg1
    · rw [upd_ne nwt]; exact ew0
    · rw [List.mem_singleton.mp ht, T.zero]; exact valV_pos rfl
    · rw [valV_neg (fun z => ht (List.mem_singleton.mpr (Sum.inl.inj z).symm))]; rfl
    · obtain ⟨F, tds, kg, kw, s5, s6, s7, s8, s9, rfl, kG, eg, ew, et, S, ge, te, kl, rfl⟩ := p
      refine ⟨.ref td, rfl, _, .inl ⟨_, SqL.of et, rfl⟩, ?_⟩
      rcases List.eq_nil_or_concat tds with rfl | ⟨tl, hh, etl⟩
      · -- none waits
        rw [if_neg (show ¬ (!(([] : List Int).map V.int).isEmpty) = true by simp)]
        refine ⟨.ref g, rfl, .ref w, rfl, show 2 ≤ sizeLine by decide, fun t nt => ?_⟩
        have kN : Keep [] H (upd G t (.tup [.ref g, .ref w])) := kG.trans (Keep.new nt)
        refine q _ t g w kN (fun a m => ?_) (tr.not (kG.fr nt)) (tr.not fg) (tr.not fw) upd_same ⟨kg, ?_, fun u u0 u1 => ge.2.1 u (S.all T u0 u1)⟩ ⟨kw, ?_, fun u hu nu => ?_⟩
        · obtain ⟨o, e⟩ := tr a m
          exact ⟨o, kN a o e List.not_mem_nil⟩
        · rw [upd_ne (ne_of_none eg nt)]; exact eg
        · rw [upd_ne (ne_of_none ew nt)]; exact ew
        · have hu' := start_mem.mp hu
          exact te.keep (keepTupN nt) u (S.all T hu'.1 (by omega)) nu
      · rw [List.concat_eq_append] at etl
        subst etl
        rw [if_pos (show (!((tl ++ [hh]).map V.int).isEmpty) = true by simp)]
        have hF : hh ∈ F := S.sub hh (List.mem_append_right _ List.mem_cons_self)
        have hhr := S.rg hh hF
        have Fl := pigeon 16 F S.nd (fun t ht => by have := S.rg t ht; omega)
        rw [List.map_append] at et
        refine ⟨fun σ' G' => ∃ m', m' < 2 * (16 - F.length) + (tl ++ [hh]).length ∧ ∃ (F tds : List Int) (kg kw : List (Key × V)) (s5 s6 s7 s8 s9 : Option V), σ' = [some (.ref Dl), some (.int r), some (.ref g), some (.ref w), some (.ref td), s5, s6, s7, s8, s9] ∧ Keep [] H G' ∧ G' g = some (.dK kg) ∧ G' w = some (.dK kw) ∧ G' td = some (.lst (tds.map V.int)) ∧
          SS n ps d r F tds [] ∧ GapE kg F d r ∧ TowE av G' kw F ps d r ∧ kw.length ≤ F.length ∧ m' = 2 * (16 - F.length) + tds.length, fun σ' G' h => h, ?_⟩
        refine ⟨.ref td, rfl, .inl ⟨rfl, _, SqL.of et⟩, td, _, .int hh, rfl, rfl, et, by simp, ?_⟩
        have edl : (tl.map V.int ++ [hh].map V.int).dropLast = tl.map V.int := by simp
        rw [edl]
        have kG2 : Keep [] H (upd G td (.lst (tl.map V.int))) := kG.upd ft
        have eg2 : (upd G td (.lst (tl.map V.int))) g = some (.dK kg) := by rw [upd_ne ngt]; exact eg
        have ew2 : (upd G td (.lst (tl.map V.int))) w = some (.dK kw) := by rw [upd_ne nwt]; exact ew
        have et2 : (upd G td (.lst (tl.map V.int))) td = some (.lst (tl.map V.int)) := upd_same
        have te2 := te.keep (keepTup (u := .lst (tl.map V.int)) et (fun xs z => by cases z))
        generalize upd G td (.lst (tl.map V.int)) = G2 at kG2 eg2 ew2 et2 te2 ⊢
        obtain ⟨a, ga⟩ : ∃ a, ds[hh.toNat]? = some a := ⟨_, List.getElem?_eq_getElem (by omega)⟩
        obtain ⟨ts, ea, da, la⟩ := rw0 hh.toNat a ga
        have eh : ((hh.toNat : Nat) : Int) = hh := by omega
        have da' : Dts av H ts ((doorsTo ps hh ps.length).map tupI) := by
          have z : Dts av H ts ((doorsTo ps ((hh.toNat : Nat) : Int) ps.length).map tupI) := da
          rw [eh] at z; exact z
        have S2 := S.pop
        refine ⟨.ref Dl, rfl, .int hh, rfl, Dl, _, hh, .ref a, rfl, rfl, SqL.of (kG2 Dl _ eD List.not_mem_nil), atI_of hhr.1 (by rw [List.getElem?_map, ga]; rfl), a, rfl, ⟨_, SqL.of (kG2 a _ ea List.not_mem_nil)⟩, ?_⟩
        refine for_list (K := K) (a := a) (xs := ts) (fun j σ J => ∃ (F' tds' : List Int) (kg kw : List (Key × V)) (s6 s7 s8 s9 : Option V), σ = [some (.ref Dl), some (.int r), some (.ref g), some (.ref w), some (.ref td), some (.int hh), s6, s7, s8, s9] ∧ Keep [] H J ∧ J g = some (.dK kg) ∧ J w = some (.dK kw) ∧ J td = some (.lst (tds'.map V.int)) ∧
          SS n ps d r F' tds' [hh] ∧ hh ∈ F' ∧ GapE kg F' d r ∧ TowE av J kw F' ps d r ∧ kw.length ≤ F'.length ∧ 2 * (16 - F'.length) + tds'.length ≤ 2 * (16 - F.length) + tl.length ∧ ∀ row ∈ (doorsTo ps hh ps.length).take j, row.getD 2 0 ∈ F')
          ⟨F, tl, kg, kw, _, _, _, _, rfl, kG2, eg2, ew2, et2, S2, hF, ge, te2, kl, Nat.le_refl _, fun row z => by simp at z⟩ (fun j σ J _ p => ?_) (fun j x σ J hx p => ?_) (fun σ J p => ?_)
        · obtain ⟨_, _, _, _, _, _, _, _, _, kJ, _⟩ := p
          exact SqL.of (kJ a _ ea List.not_mem_nil)
        · obtain ⟨F', tds', kg, kw, s6, s7, s8, s9, rfl, kJ, eg, ew, et, SJ, hF', ge, te, kl, ms, al⟩ := p
          obtain ⟨dd, gd, dx⟩ := (da'.keep kJ.of).getv j hx
          rw [List.getElem?_map] at gd
          obtain ⟨row, grow, rfl⟩ := Option.map_eq_some_iff.mp gd
          obtain ⟨i, il, hrow⟩ := mem_doors.mp (List.mem_of_getElem? grow)
          have pg := (hk.at il).2
          have pl := (hk.at il).1.fit.l1
          obtain ⟨ia, at', v, far, L, erow, hRE, habs, htow⟩ : ∃ ia at' v far L : Int, row = [ia, at', v, far] ∧ RE ps hh v L ∧ (if far - at' < 0 then -(far - at') else far - at') = L ∧ (d r v = d r hh + L → TowRow ps d r v [ia, far, hh, at']) := by
            rcases hrow with ⟨e, h⟩ | ⟨e, h⟩
            · exact ⟨_, _, _, _, _, h, ⟨i, _, pg, rfl, .inl ⟨e, rfl⟩⟩, by split <;> omega, fun z => ⟨i, _, pg, .inr ⟨by rw [e], rfl, by rw [e]; exact z.symm⟩⟩⟩
            · exact ⟨_, _, _, _, _, h, ⟨i, _, pg, rfl, .inr ⟨e, rfl⟩⟩, by split <;> omega, fun z => ⟨i, _, pg, .inl ⟨by rw [e], rfl, by rw [e]; exact z.symm⟩⟩⟩
          subst erow
          obtain ⟨Ta, rfl, nTa, eTa⟩ := tupI_at dx
          have tk : (doorsTo ps hh ps.length).take (j + 1) = (doorsTo ps hh ps.length).take j ++ [[ia, at', v, far]] := by rw [List.take_add_one, grow]; rfl
          refine ⟨Ta, [.int ia, .int at', .int v, .int far], rfl, SqT.of eTa, rfl, _, _, rfl, _, _, rfl, _, _, rfl, _, [], rfl, rfl, ?_⟩
          refine ⟨.int v, rfl, .ref g, rfl, g, _, rfl, DGet.k (k := Sum.inl v) eg, _, rfl, ?_⟩
          by_cases hv : v ∈ F'
          · rw [ge.2.1 v hv]
            refine iteF ?_
            refine ⟨F', tds', kg, kw, _, _, _, _, rfl, kJ, eg, ew, et, SJ, hF', ge, te, kl, ms, fun row hrow => ?_⟩
            rw [tk] at hrow
            rcases List.mem_append.mp hrow with m | m
            · exact al row m
            · rw [List.mem_singleton.mp m]; exact hv
          · rw [ge.2.2 v hv]
            refine iteT ?_
            obtain ⟨SN, dv⟩ := SJ.add T hF' hv hRE
            have Fl' := pigeon 16 (F' ++ [v]) SN.nd (fun t ht => by have := SN.rg t ht; omega)
            rw [List.length_append, List.length_singleton] at Fl'
            have kgl : kg.length < sizeLine := by rw [ge.1]; exact Nat.lt_of_lt_of_le (by omega : F'.length < 1000) (small1000 (by omega))
            refine ⟨.ref g, rfl, .int hh, rfl, g, .int (d r hh), rfl, by rw [← ge.2.1 hh hF']; exact DGet.k (k := Sum.inl hh) eg, .int far, rfl, .int at', rfl, far, at', rfl, rfl, far - at', rfl, d r hh, _, rfl, rfl, .ref g, rfl, .int v, rfl, g, _, rfl, (show DPut J g (.int v) (.int (d r hh + (if far - at' < 0 then -(far - at') else far - at'))) _ from DPut.k (k := Sum.inl v) eg kgl), ?_⟩
            rw [habs, ← dv]
            have ew1 : (upd J g (.dK (putK kg (Sum.inl v) (.int (d r v))))) w = some (.dK kw) := by rw [upd_ne ngw.symm]; exact ew
            have et1 : (upd J g (.dK (putK kg (Sum.inl v) (.int (d r v))))) td = some (.lst (tds'.map V.int)) := by rw [upd_ne ngt.symm]; exact et
            have eg1 : (upd J g (.dK (putK kg (Sum.inl v) (.int (d r v))))) g = some (.dK (putK kg (Sum.inl v) (.int (d r v)))) := upd_same
            have te1 := te.keep (keepTup (u := .dK (putK kg (Sum.inl v) (.int (d r v)))) eg (fun xs z => by cases z))
            have k1 : Keep [] H (upd J g (.dK (putK kg (Sum.inl v) (.int (d r v))))) := kJ.upd fg
            have ge1 := ge.put hv
            generalize upd J g (.dK (putK kg (Sum.inl v) (.int (d r v)))) = J1 at ew1 et1 eg1 te1 k1 ⊢
            refine ⟨.int ia, rfl, .int far, rfl, .int hh, rfl, .int at', rfl, show 4 ≤ sizeLine by decide, fun Tn nTn => ?_⟩
            have kwl : kw.length < sizeLine := Nat.lt_of_lt_of_le (by omega : kw.length < 1000) (small1000 (by omega))
            have ew2 : (upd J1 Tn (.tup [.int ia, .int far, .int hh, .int at'])) w = some (.dK kw) := by rw [upd_ne (ne_of_none ew1 nTn)]; exact ew1
            refine ⟨.ref w, rfl, .int v, rfl, w, _, rfl, DPut.k (k := Sum.inl v) ew2 kwl, ?_⟩
            have nTw : Tn ≠ w := (ne_of_none ew1 nTn).symm
            have et3 : (upd (upd J1 Tn (.tup [.int ia, .int far, .int hh, .int at'])) w (.dK (putK kw (Sum.inl v) (.ref Tn)))) td = some (.lst (tds'.map V.int)) := by rw [upd_ne nwt.symm, upd_ne (ne_of_none et1 nTn)]; exact et1
            have eg3 : (upd (upd J1 Tn (.tup [.int ia, .int far, .int hh, .int at'])) w (.dK (putK kw (Sum.inl v) (.ref Tn)))) g = some (.dK (putK kg (Sum.inl v) (.int (d r v)))) := by rw [upd_ne ngw, upd_ne (ne_of_none eg1 nTn)]; exact eg1
            have ew3 : (upd (upd J1 Tn (.tup [.int ia, .int far, .int hh, .int at'])) w (.dK (putK kw (Sum.inl v) (.ref Tn)))) w = some (.dK (putK kw (Sum.inl v) (.ref Tn))) := upd_same
            have eT3 : (upd (upd J1 Tn (.tup [.int ia, .int far, .int hh, .int at'])) w (.dK (putK kw (Sum.inl v) (.ref Tn)))) Tn = some (.tup ([ia, far, hh, at'].map V.int)) := by rw [upd_ne nTw]; exact upd_same
            have te3 := (te1.keep (keepTupN (u := .tup [.int ia, .int far, .int hh, .int at']) nTn)).keep (keepTup (u := .dK (putK kw (Sum.inl v) (.ref Tn))) ew2 (fun xs z => by cases z))
            have k3 : Keep [] H (upd (upd J1 Tn (.tup [.int ia, .int far, .int hh, .int at'])) w (.dK (putK kw (Sum.inl v) (.ref Tn)))) := (k1.trans (Keep.new nTn)).upd fw
            have nTav : Tn ∉ av := tr.not (k1.fr nTn)
            generalize upd (upd J1 Tn (.tup [.int ia, .int far, .int hh, .int at'])) w (.dK (putK kw (Sum.inl v) (.ref Tn))) = J3 at et3 eg3 ew3 eT3 te3 k3 ⊢
            have tdl : tds'.length ≤ 100 := by have := SJ.few; omega
            refine ⟨.ref td, rfl, .inl ⟨rfl, _, SqL.of et3⟩, .int v, rfl, td, _, _, rfl, rfl, et3, by rw [List.length_map]; exact Nat.lt_of_lt_of_le (by omega : tds'.length < 1000) (small1000 (by omega)), ?_⟩
            refine ⟨F' ++ [v], tds' ++ [v], _, _, _, _, _, _, rfl, k3.upd ft, by rw [upd_ne ngt]; exact eg3, by rw [upd_ne nwt]; exact ew3, by rw [upd_same, List.map_append]; rfl, SN, List.mem_append_left _ hF', ge1, fun t ht nt => ?_, ?_, ?_, fun row hrow => ?_⟩
            · by_cases ev : t = v
              · subst ev
                exact ⟨Tn, _, by rw [valV_put, if_pos rfl], nTav, keepTup (u := .lst (tds'.map V.int ++ [V.int t])) et3 (fun xs z => by cases z) _ _ eT3, htow dv⟩
              · rcases List.mem_append.mp ht with m | m
                · obtain ⟨T', row', h1, h2, h3, h4⟩ := te3.keep (keepTup (u := .lst (tds'.map V.int ++ [V.int v])) et3 (fun xs z => by cases z)) t m nt
                  exact ⟨T', row', by rw [valV_put, if_neg (fun z => ev (Sum.inl.inj z))]; exact h1, h2, h3, h4⟩
                · exact absurd (List.mem_singleton.mp m) ev
            · have := DSub.putK_len kw (Sum.inl v) (V.ref Tn)
              rw [List.length_append, List.length_singleton]; omega
            · rw [List.length_append, List.length_append, List.length_singleton]
              omega
            · rw [tk] at hrow
              rcases List.mem_append.mp hrow with m | m
              · exact List.mem_append_left _ (al row m)
              · rw [List.mem_singleton.mp m]; exact List.mem_append_right _ List.mem_cons_self
        · obtain ⟨F', tds', kg', kw', s6', s7', s8', s9', rfl, kJ, egJ, ewJ, etJ, SJ, hFJ, geJ, teJ, klJ, ms, al⟩ := p
          refine ⟨_, ?_, F', tds', kg', kw', _, _, _, _, _, rfl, kJ, egJ, ewJ, etJ, SJ.done (fun v w' e => ?_), geJ, teJ, klJ, rfl⟩
          · rw [List.length_append, List.length_singleton]; omega
          · obtain ⟨i, p, ei, hw, hp⟩ := e
            have il : i < ps.length := (List.getElem?_eq_some_iff.mp ei).1
            have ln : ts.length = (doorsTo ps hh ps.length).length := by rw [da'.len, List.length_map]
            rw [ln, List.take_length] at al
            rcases hp with ⟨h1, h2⟩ | ⟨h1, h2⟩
            · have := al _ (mem_doors.mpr ⟨i, il, .inl ⟨by rw [pr_of ei]; exact h1, rfl⟩⟩)
              rw [pr_of ei] at this
              rw [← h2]; exact this
            · have := al _ (mem_doors.mpr ⟨i, il, .inr ⟨by rw [pr_of ei]; exact h1, rfl⟩⟩)
              rw [pr_of ei] at this
              rw [← h2]; exact this
end
end Rw

namespace Rw
open PySem PySem.Spec PyProof.Rows L2
/-! ### a house's plan -/
def pf1 (b : V) : List (Str × V) := [("built", b)]
def pf2 (b p : V) : List (Str × V) := [("built", b), ("pipes", p)]
def pf3 (b p e : V) : List (Str × V) := [("built", b), ("pipes", p), ("doors", e)]
def pf4 (b p e g : V) : List (Str × V) := [("built", b), ("pipes", p), ("doors", e), ("gaps", g)]
def pf5 (b p e g t : V) : List (Str × V) := [("built", b), ("pipes", p), ("doors", e), ("gaps", g), ("towards", t)]
theorem putF_new {k : Str} {v : V} : ∀ fs : List (Str × V), (fs.all fun e => !decide (e.1 = k)) = true → putF k v fs = fs ++ [(k, v)]
  | [], _ => rfl
  | (x, y) :: r, h => by
    rw [List.all_cons, Bool.and_eq_true] at h
    have n : ¬ x = k := by
      intro z
      rw [decide_eq_true z] at h
      cases h.1
    show (if x = k then _ else (x, y) :: putF k v r) = _
    rw [if_neg n, putF_new r h.2]; rfl
theorem pf_2 (b p : V) : putF "pipes" p (pf1 b) = pf2 b p := putF_new (k := "pipes") (pf1 b) (by show (!decide (("built" : Str) = "pipes") && true) = true; decide +kernel)
theorem pf_3 (b p e : V) : putF "doors" e (pf2 b p) = pf3 b p e := putF_new (k := "doors") (pf2 b p) (by show (!decide (("built" : Str) = "doors") && (!decide (("pipes" : Str) = "doors") && true)) = true; decide +kernel)
theorem pf_4 (b p e g : V) : putF "gaps" g (pf3 b p e) = pf4 b p e g := putF_new (k := "gaps") (pf3 b p e) (by show (!decide (("built" : Str) = "gaps") && (!decide (("pipes" : Str) = "gaps") && (!decide (("doors" : Str) = "gaps") && true))) = true; decide +kernel)
theorem pf_5 (b p e g t : V) : putF "towards" t (pf4 b p e g) = pf5 b p e g t := putF_new (k := "towards") (pf4 b p e g) (by show (!decide (("built" : Str) = "towards") && (!decide (("pipes" : Str) = "towards") && (!decide (("doors" : Str) = "towards") && (!decide (("gaps" : Str) = "towards") && true)))) = true; decide +kernel)
theorem lk_no {k x : Str} {y : V} {r : List (Str × V)} (h : (k == x) = false) : ((x, y) :: r).lookup k = r.lookup k := by simp only [List.lookup, h]
theorem lk_yes {k : Str} {y : V} {r : List (Str × V)} : ((k, y) :: r).lookup k = some y := by simp [List.lookup]
theorem pf_built (b p e g t : V) : (pf5 b p e g t).lookup ("built" : Str) = some b := lk_yes
theorem pf_pipes (b p e g t : V) : (pf5 b p e g t).lookup ("pipes" : Str) = some p := ((lk_no (k := "pipes") (x := "built") (by decide +kernel)).trans lk_yes)
theorem pf_doors (b p e g t : V) : (pf5 b p e g t).lookup ("doors" : Str) = some e := ((lk_no (k := "doors") (x := "built") (by decide +kernel)).trans ((lk_no (k := "doors") (x := "pipes") (by decide +kernel)).trans lk_yes))
theorem pf_gaps (b p e g t : V) : (pf5 b p e g t).lookup ("gaps" : Str) = some g := ((lk_no (k := "gaps") (x := "built") (by decide +kernel)).trans ((lk_no (k := "gaps") (x := "pipes") (by decide +kernel)).trans ((lk_no (k := "gaps") (x := "doors") (by decide +kernel)).trans lk_yes)))
theorem pf_tow (b p e g t : V) : (pf5 b p e g t).lookup ("towards" : Str) = some t := ((lk_no (k := "towards") (x := "built") (by decide +kernel)).trans ((lk_no (k := "towards") (x := "pipes") (by decide +kernel)).trans ((lk_no (k := "towards") (x := "doors") (by decide +kernel)).trans ((lk_no (k := "towards") (x := "gaps") (by decide +kernel)).trans lk_yes))))
def PlanAt (C : Addr) (av : List Addr) (H : Hp) (a : Addr) (n : Int) (ps : List Pi) (d : Int → Int → Int) : Prop :=
  ∃ (dx hb pp dl gl tl : Addr) (xp : List V) (ds gs ws : List Addr), a ∉ av ∧ H a = some (.ins C dx (pf5 (.ref hb) (.ref pp) (.ref dl) (.ref gl) (.ref tl))) ∧ hb ∉ av ∧ H hb = some (.tup [.int n, .ref pp]) ∧ pp ∉ av ∧ H pp = some (.tup xp) ∧ Dts av H xp (ps.map Pi.dat) ∧
    dl ∉ av ∧ H dl = some (.lst (ds.map V.ref)) ∧ (ds.length : Int) = n ∧ (∀ z ∈ ds, z ∉ av) ∧ Rws av H ds (fun r => doorsTo ps (r : Int) ps.length) 100 ∧
    gl ∉ av ∧ H gl = some (.lst (gs.map V.ref)) ∧ gs.length = n.toNat ∧ (∀ (r : Nat) (z : Addr), gs[r]? = some z → z ∉ av ∧ GapsAt H z n d (r : Int)) ∧
    tl ∉ av ∧ H tl = some (.lst (ws.map V.ref)) ∧ ws.length = n.toNat ∧ ∀ (r : Nat) (z : Addr), ws[r]? = some z → z ∉ av ∧ TowAt av H z n ps d (r : Int)
theorem GapsAt.keep {av : List Addr} {H H' : Hp} {z : Addr} {n r : Int} {d : Int → Int → Int} (h : GapsAt H z n d r) (nz : z ∉ av) (k : Keep av H H') : GapsAt H' z n d r := by
  obtain ⟨kvs, e, h⟩ := h
  exact ⟨kvs, k z _ e nz, h⟩
theorem TowAt.keep {av : List Addr} {H H' : Hp} {z : Addr} {n r : Int} {ps : List Pi} {d : Int → Int → Int} (h : TowAt av H z n ps d r) (nz : z ∉ av) (k : Keep av H H') : TowAt av H' z n ps d r := by
  obtain ⟨kvs, e, h⟩ := h
  refine ⟨kvs, k z _ e nz, fun t ht nt => ?_⟩
  obtain ⟨T, row, h1, h2, h3, h4⟩ := h t ht nt
  exact ⟨T, row, h1, h2, k T _ h3 h2, h4⟩
theorem TowAt.less {av av' : List Addr} {H : Hp} {z : Addr} {n r : Int} {ps : List Pi} {d : Int → Int → Int} (h : TowAt av H z n ps d r) (s : ∀ a ∈ av', a ∈ av) : TowAt av' H z n ps d r := by
  obtain ⟨kvs, e, h⟩ := h
  refine ⟨kvs, e, fun t ht nt => ?_⟩
  obtain ⟨T, row, h1, h2, h3, h4⟩ := h t ht nt
  exact ⟨T, row, h1, fun m => h2 (s T m), h3, h4⟩
theorem Rws.keep {av : List Addr} {G G' : Hp} {ds : List Addr} {f : Nat → List (List Int)} {m : Nat} (h : Rws av G ds f m) (nz : ∀ z ∈ ds, z ∉ av) (k : Keep av G G') : Rws av G' ds f m := fun r a e => by
  obtain ⟨ts, h1, h2, h3⟩ := h r a e
  exact ⟨ts, k a _ h1 (nz a (List.mem_of_getElem? e)), h2.keep k, h3⟩
theorem Rws.more {av : List Addr} {G : Hp} {ds : List Addr} {f : Nat → List (List Int)} {m : Nat} {p : Addr} (h : Rws av G ds f m) (n : G p = none) : Rws (p :: av) G ds f m := fun r a e => by
  obtain ⟨ts, h1, h2, h3⟩ := h r a e
  exact ⟨ts, h1, h2.more n, h3⟩
theorem PlanAt.keep {C : Addr} {av : List Addr} {H H' : Hp} {a : Addr} {n : Int} {ps : List Pi} {d : Int → Int → Int} (h : PlanAt C av H a n ps d) (k : Keep av H H') : PlanAt C av H' a n ps d := by
  obtain ⟨dx, hb, pp, dl, gl, tl, xp, ds, gs, ws, a1, a2, a3, a4, a5, a6, a7, a8, a9, b1, b2, b3, b4, b5, b6, b7, b8, b9, c1, c2⟩ := h
  exact ⟨dx, hb, pp, dl, gl, tl, xp, ds, gs, ws, a1, k _ _ a2 a1, a3, k _ _ a4 a3, a5, k _ _ a6 a5, a7.keep k, a8, k _ _ a9 a8, b1, b2, b3.keep b2 k, b4, k _ _ b5 b4, b6, fun r z e => ⟨(b7 r z e).1, (b7 r z e).2.keep (b7 r z e).1 k⟩, b8, k _ _ b9 b8, c1, fun r z e => ⟨(c2 r z e).1, (c2 r z e).2.keep (c2 r z e).1 k⟩⟩
theorem PlanAt.less {C : Addr} {av av' : List Addr} {H : Hp} {a : Addr} {n : Int} {ps : List Pi} {d : Int → Int → Int} (h : PlanAt C av H a n ps d) (s : ∀ a ∈ av', a ∈ av) : PlanAt C av' H a n ps d := by
  obtain ⟨dx, hb, pp, dl, gl, tl, xp, ds, gs, ws, a1, a2, a3, a4, a5, a6, a7, a8, a9, b1, b2, b3, b4, b5, b6, b7, b8, b9, c1, c2⟩ := h
  have f : ∀ {z : Addr}, z ∉ av → z ∉ av' := fun nz m => nz (s _ m)
  exact ⟨dx, hb, pp, dl, gl, tl, xp, ds, gs, ws, f a1, a2, f a3, a4, f a5, a6, a7.less s, f a8, a9, b1, fun z m => f (b2 z m), b3.less s, f b4, b5, b6, fun r z e => ⟨f (b7 r z e).1, (b7 r z e).2⟩, f b8, b9, c1, fun r z e => ⟨f (c2 r z e).1, (c2 r z e).2.less s⟩⟩
/-! a class of the program whose __init__ keeps a promise -/
def CanMk (P : Program) (w : World) (K : PySem.W.Frag) (mg : Str → Option Value) (base : Heap) (x : Str) (C : Addr) (ps : List Str) (k : Nat) (sp : Sp) : Prop := ∃ f fd, Mk K C f ∧ FnOk P w K mg base CX0 k f fd ps sp ∧ mg x = some (.ref C) ∧ Binds K fd ps []
theorem pe_mk {X : Cx} {x : Str} {C : Addr} {ps : List Str} {k : Nat} {sp : Sp} {e : Expr} {es : List Expr} {t : TA} {p pos : Pos} (M : CanMk X.prog X.w X.K X.mg X.base x C ps k sp) (hr : Room (k + 1) X.A) (hg : Gl X x)
    (ha : PA X (e :: es) t) (hdb : (x == ("__debug__" : Str)) = false := by decide) (he : starEach (e :: es) X.env = (false, eval e X.env) :: starEach es X.env := by rfl) (hpl : (backTo pos (starEach es X.env)).any (·.1) = false := by rfl) :
    PE X (.Call (.Name x p) (e :: es) [] pos) (tMake C sp [] E0 t) := by
  obtain ⟨f, fd, M, F, gm, b⟩ := M
  exact pe_make M F hr hg gm b .nil pass0 ha hdb he hpl
structure PlanTxt (K : PySem.W.Frag) (C : Addr) : Prop where
  cl : Cls K C
  nB : NoAttr K C "built"
  nP : NoAttr K C "pipes"
  nD : NoAttr K C "doors"
  nG : NoAttr K C "gaps"
  nT : NoAttr K C "towards"
section
variable {P : Program} {w : World} {K : PySem.W.Frag} {mg : Str → Option Value} {base : Heap}
abbrev sInit : Stmt := inClass (topS 1) 0
abbrev nInit : List Str := ["self", "house", "room", "gaps", "towards"]
theorem scInit : FnScope nInit ["self", "house"] (defScope sInit) := ⟨rfl, rfl, rfl, by decide +kernel, rfl, by decide +kernel, by decide +kernel⟩
def spInit (C : Addr) : Sp := fun vs H Q _ => ∃ (x dx : Addr) (h : V) (n : Int) (ps : List Pi) (d : Int → Int → Int) (av : List Addr), vs = [.ref x, h] ∧ H x = some (.ins C dx []) ∧ x ∉ av ∧ Dt (x :: av) H h (houseD n (ps.map Pi.dat)) ∧ HouseOk n ps ∧ Tm n ps d ∧ Tr av H ∧
  ∀ H' : Hp, Keep [x] H H' → Tr av H' → PlanAt C av H' x n ps d → Q .non H'
theorem ok_init {C f : Addr} {fd : FuncData} (F : Fun K "__init__" "Plan.__init__" sInit f fd) (B : Blt mg) (X : PlanTxt K C) (CD : Can P w K mg base "doors_of" ["house"] 1 spDoors) (CS : Can P w K mg base "spread_from" ["doors", "room"] 1 spSpread) : FnOk P w K mg base CX0 2 f fd ["self", "house"] (spInit C) := by
  refine F.ok (k := 1) scInit (fun vs H Q E h => ?_) (fun cdv A outer s H vs Q E hr h => ?_)
  · obtain ⟨x, dx, h, n, ps, d, av, rfl, _⟩ := h
    rfl
  · obtain ⟨x, dx, h, n, ps, d, av, rfl, ex, nx, hh, hk, T, tr, q⟩ := h
    have n1 := hk.n1
    have n2 := hk.n2
    refine ⟨_, pss_cons (ps_fld (pv 0) (pv 1) rfl)
      (pss_cons (ps_fld (pv 0) (pe_ix ix_tup (pv 1) pe_int (fun _ _ => rfl)) rfl)
      (pss_cons (ps_fld (pv 0) (pe_can CD (hr.mono (by decide)) (by rfl) (pa_cons (pv 1) pa_nil)) rfl)
      (pss_cons (ps_fld (pv 0) (pe_lst pa_nil) rfl)
      (pss_cons (ps_fld (pv 0) (pe_lst pa_nil) rfl)
      (pss_one (ps_for PassesOwn.never rfl (pi_range1 (by rfl) B.range_ (pa_cons (pe_ix ix_tup (pv 1) pe_int (fun _ _ => rfl)) pa_nil)) (pg_name (i := 2) scInit.nd rfl (by first | exact Or.inl rfl | exact Or.inr rfl))
      (pss_cons (ps_asg (pe_can CS (hr.mono (by decide)) (by rfl) (pa_cons (pe_fld (pv 0) rfl) (pa_cons (pv 2) pa_nil))) (pg_tup (by rfl) (pgs_cons (pg_name (i := 3) scInit.nd rfl (by first | exact Or.inl rfl | exact Or.inr rfl)) (pgs_cons (pg_name (i := 4) scInit.nd rfl (by first | exact Or.inl rfl | exact Or.inr rfl)) pgs_nil))))
      (pss_cons (ps_expr (pe_bm PySem.F.plainAttrs_list PySem.F.slot_list_append PySem.F.type_list_append mt_append (pe_fld (pv 0) rfl) (pa_cons (pv 3) pa_nil)))
      (pss_one (ps_expr (pe_bm PySem.F.plainAttrs_list PySem.F.slot_list_append PySem.F.type_list_append mt_append (pe_fld (pv 0) rfl) (pa_cons (pv 4) pa_nil)))))))))))), ?_⟩
    obtain ⟨ah, ap, xp, rfl, na, ea, nb, eb, db⟩ := house_parts hh
    have nax : ah ≠ x := fun z => na (by rw [z]; exact List.mem_cons_self)
    have nbx : ap ≠ x := fun z => nb (by rw [z]; exact List.mem_cons_self)
    refine ⟨.ref ah, rfl, .ref x, rfl, x, C, dx, [], rfl, ex, X.cl, X.nB, by show 0 < 1000; decide, ?_⟩
    refine ⟨.ref ah, rfl, ah, [.int n, .ref ap], 1, .ref ap, rfl, rfl, SqT.of (by rw [upd_ne nax]; exact ea), atI_nat (j := 1) rfl, .ref x, rfl, x, C, dx, _, rfl, upd_same, X.cl, X.nP, by show 1 < 1000; decide, ?_⟩
    rw [upd_upd, show putF "built" (V.ref ah) [] = pf1 (.ref ah) from rfl, pf_2]
    have kx : ∀ o, Keep (x :: av) H (upd H x o) := fun o => Keep.put List.mem_cons_self
    have trx : ∀ o, Tr (x :: av) (upd H x o) := fun o => (tr.upd).cons upd_same
    refine ⟨.ref ah, rfl, .ref ah, n, ps, x :: av, rfl, hh.keep (kx _), hk, trx _, fun H1 Dl ds k1 fD nD nds tr1 eD dl rws => ?_⟩
    have ex1 := k1 x _ upd_same List.not_mem_nil
    refine ⟨.ref x, rfl, x, C, dx, _, rfl, ex1, X.cl, X.nD, by show 2 < 1000; decide, ?_⟩
    rw [pf_3]
    have nDx : Dl ≠ x := fun z => nD (by rw [z]; exact List.mem_cons_self)
    have kA : Keep [x] H (upd H1 x (.ins C dx (pf3 (.ref ah) (.ref ap) (.ref Dl)))) := ((Keep.put List.mem_cons_self).trans k1.of).trans (Keep.put List.mem_cons_self)
    have rwA : Rws (x :: av) (upd H1 x (.ins C dx (pf3 (.ref ah) (.ref ap) (.ref Dl)))) ds (fun r => doorsTo ps (r : Int) ps.length) 100 := rws.keep nds (Keep.put List.mem_cons_self)
    have eDA : (upd H1 x (.ins C dx (pf3 (.ref ah) (.ref ap) (.ref Dl)))) Dl = some (.lst (ds.map V.ref)) := by rw [upd_ne nDx]; exact eD
    have exA : (upd H1 x (.ins C dx (pf3 (.ref ah) (.ref ap) (.ref Dl)))) x = some (.ins C dx (pf3 (.ref ah) (.ref ap) (.ref Dl))) := upd_same
    have trA : Tr (x :: av) (upd H1 x (.ins C dx (pf3 (.ref ah) (.ref ap) (.ref Dl)))) := tr1.upd
    have kA2 : Keep (x :: av) H (upd H1 x (.ins C dx (pf3 (.ref ah) (.ref ap) (.ref Dl)))) := kA.mono (fun z m => by rw [List.mem_singleton.mp m]; exact List.mem_cons_self)
    generalize upd H1 x (.ins C dx (pf3 (.ref ah) (.ref ap) (.ref Dl))) = HA at kA kA2 rwA eDA exA trA ⊢
    refine ⟨show 0 ≤ sizeLine by decide, fun gl ngl => ?_⟩
    have exB : (upd HA gl (.lst [])) x = some (.ins C dx (pf3 (.ref ah) (.ref ap) (.ref Dl))) := by rw [upd_ne (ne_of_none exA ngl)]; exact exA
    refine ⟨.ref x, rfl, x, C, dx, _, rfl, exB, X.cl, X.nG, by show 3 < 1000; decide, ?_⟩
    rw [pf_4]
    refine ⟨show 0 ≤ sizeLine by decide, fun tl ntl => ?_⟩
    have ngx : gl ≠ x := (ne_of_none exA ngl).symm
    have egB : (upd (upd HA gl (.lst [])) x (.ins C dx (pf4 (.ref ah) (.ref ap) (.ref Dl) (.ref gl)))) gl = some (.lst []) := by rw [upd_ne ngx]; exact upd_same
    have exC : (upd (upd (upd HA gl (.lst [])) x (.ins C dx (pf4 (.ref ah) (.ref ap) (.ref Dl) (.ref gl)))) tl (.lst [])) x = some (.ins C dx (pf4 (.ref ah) (.ref ap) (.ref Dl) (.ref gl))) := by
      rw [upd_ne (ne_of_none upd_same ntl)]; exact upd_same
    refine ⟨.ref x, rfl, x, C, dx, _, rfl, exC, X.cl, X.nT, by show 4 < 1000; decide, ?_⟩
    rw [pf_5]
    have ntx : tl ≠ x := (ne_of_none (upd_same (H := upd HA gl (.lst [])) (a := x) (o := .ins C dx (pf4 (.ref ah) (.ref ap) (.ref Dl) (.ref gl)))) ntl).symm
    have ntg : tl ≠ gl := (ne_of_none egB ntl).symm
    have fgl : HA gl = none := ngl
    have ftl : HA tl = none := by rw [upd_ne ntx, upd_ne ntg] at ntl; exact ntl
    have nDg : Dl ≠ gl := ne_of_none eDA fgl
    have nDt : Dl ≠ tl := ne_of_none eDA ftl
    have nDav : Dl ∉ gl :: tl :: x :: av := fun m => by
      rcases List.mem_cons.mp m with m | m
      · exact nDg m
      · rcases List.mem_cons.mp m with m | m
        · exact nDt m
        · exact nD m
    have nds3 : ∀ z ∈ ds, z ∉ gl :: tl :: x :: av := fun z hz m => by
      obtain ⟨r, gr⟩ := List.mem_iff_getElem?.mp hz
      obtain ⟨ts, ez, _⟩ := rwA r z gr
      rcases List.mem_cons.mp m with m | m
      · exact ne_of_none ez fgl m
      · rcases List.mem_cons.mp m with m | m
        · exact ne_of_none ez ftl m
        · exact nds z hz m
    have fgH : H gl = none := by
      cases e : H gl with
      | none => rfl
      | some o => rw [kA gl o e (fun m => ngx (List.mem_singleton.mp m))] at fgl; cases fgl
    have ftH : H tl = none := by
      cases e : H tl with
      | none => rfl
      | some o => rw [kA tl o e (fun m => ntx (List.mem_singleton.mp m))] at ftl; cases ftl
    have m1 : gl ∈ gl :: tl :: x :: av := by simp
    have m2 : tl ∈ gl :: tl :: x :: av := by simp
    have m3 : x ∈ gl :: tl :: x :: av := by simp
    have exD := upd_same (H := upd (upd (upd HA gl (.lst [])) x (.ins C dx (pf4 (.ref ah) (.ref ap) (.ref Dl) (.ref gl)))) tl (.lst [])) (a := x) (o := .ins C dx (pf5 (.ref ah) (.ref ap) (.ref Dl) (.ref gl) (.ref tl)))
    have kD : Keep (gl :: tl :: x :: av) HA (upd (upd (upd (upd HA gl (.lst [])) x (.ins C dx (pf4 (.ref ah) (.ref ap) (.ref Dl) (.ref gl)))) tl (.lst [])) x (.ins C dx (pf5 (.ref ah) (.ref ap) (.ref Dl) (.ref gl) (.ref tl)))) := (((Keep.put m1).trans (Keep.put m3)).trans (Keep.put m2)).trans (Keep.put m3)
    have kDx : Keep [x] H (upd (upd (upd (upd HA gl (.lst [])) x (.ins C dx (pf4 (.ref ah) (.ref ap) (.ref Dl) (.ref gl)))) tl (.lst [])) x (.ins C dx (pf5 (.ref ah) (.ref ap) (.ref Dl) (.ref gl) (.ref tl)))) :=
      (((kA.trans (Keep.new ngl)).trans (Keep.put List.mem_cons_self)).trans (Keep.new ntl)).trans (Keep.put List.mem_cons_self)
    have egD : (upd (upd (upd (upd HA gl (.lst [])) x (.ins C dx (pf4 (.ref ah) (.ref ap) (.ref Dl) (.ref gl)))) tl (.lst [])) x (.ins C dx (pf5 (.ref ah) (.ref ap) (.ref Dl) (.ref gl) (.ref tl)))) gl = some (.lst []) := by
      rw [upd_ne ngx, upd_ne ntg.symm, upd_ne ngx]; exact upd_same
    have etD : (upd (upd (upd (upd HA gl (.lst [])) x (.ins C dx (pf4 (.ref ah) (.ref ap) (.ref Dl) (.ref gl)))) tl (.lst [])) x (.ins C dx (pf5 (.ref ah) (.ref ap) (.ref Dl) (.ref gl) (.ref tl)))) tl = some (.lst []) := by
      rw [upd_ne ntx]; exact upd_same
    have trD : Tr (gl :: tl :: x :: av) (upd (upd (upd (upd HA gl (.lst [])) x (.ins C dx (pf4 (.ref ah) (.ref ap) (.ref Dl) (.ref gl)))) tl (.lst [])) x (.ins C dx (pf5 (.ref ah) (.ref ap) (.ref Dl) (.ref gl) (.ref tl)))) := fun a m => by
      rcases List.mem_cons.mp m with m | m
      · rw [m]; exact ⟨_, egD⟩
      · rcases List.mem_cons.mp m with m | m
        · rw [m]; exact ⟨_, etD⟩
        · exact (((trA.upd).upd).upd).upd a m
    generalize upd (upd (upd (upd HA gl (.lst [])) x (.ins C dx (pf4 (.ref ah) (.ref ap) (.ref Dl) (.ref gl)))) tl (.lst [])) x (.ins C dx (pf5 (.ref ah) (.ref ap) (.ref Dl) (.ref gl) (.ref tl))) = HD at exD kD kDx egD etD trD ⊢
    have eaD := kDx ah _ ea (fun m => nax (List.mem_singleton.mp m))
    refine ⟨.ref ah, rfl, ah, [.int n, .ref ap], 0, .int n, rfl, rfl, SqT.of eaD, atI_nat (j := 0) rfl, n, rfl, by omega, by omega, for_range (lo := 0) (n := n.toNat)
      (fun i σ G => ∃ s2 s3 s4, σ = [some (.ref x), some (.ref ah), s2, s3, s4] ∧ Keep [x] H G ∧ Keep (gl :: tl :: x :: av) HA G ∧ Tr (gl :: tl :: x :: av) G ∧ G x = some (.ins C dx (pf5 (.ref ah) (.ref ap) (.ref Dl) (.ref gl) (.ref tl))) ∧
        ∃ gs ws : List Addr, gs.length = i ∧ ws.length = i ∧ G gl = some (.lst (gs.map V.ref)) ∧ G tl = some (.lst (ws.map V.ref)) ∧ (∀ (r : Nat) (z : Addr), gs[r]? = some z → z ∉ gl :: tl :: x :: av ∧ GapsAt G z n d (r : Int)) ∧ ∀ (r : Nat) (z : Addr), ws[r]? = some z → z ∉ gl :: tl :: x :: av ∧ TowAt (gl :: tl :: x :: av) G z n ps d (r : Int))
      ⟨_, _, _, rfl, kDx, kD, trD, exD, [], [], rfl, rfl, egD, etD, fun r z e => by simp at e, fun r z e => by simp at e⟩ (fun i σ G hi p => ?_) (fun σ G p => ?_)⟩
    · obtain ⟨s2, s3, s4, rfl, kG, kG2, trG, exG, gs, ws, lg, lw, eg, et, hg, hw⟩ := p
      have eDG := kG2 Dl _ eDA nDav
      have rwG : Rws (gl :: tl :: x :: av) G ds (fun r => doorsTo ps (r : Int) ps.length) 100 := by
        have z : Rws (gl :: tl :: x :: av) HA ds (fun r => doorsTo ps (r : Int) ps.length) 100 := by
          have z1 : Rws (tl :: x :: av) HA ds (fun r => doorsTo ps (r : Int) ps.length) 100 := rwA.more ftl
          exact z1.more fgl
        exact z.keep nds3 kG2
      refine ⟨.ref x, rfl, x, C, dx, _, .ref Dl, rfl, exG, X.cl, X.nD, pf_doors .., .int (0 + (i : Int)), rfl, Dl, ds, n, 0 + (i : Int), ps, d, gl :: tl :: x :: av, rfl, eDG, dl, rwG, hk, T, by omega, by omega, trG, fun G1 t g w k1 tr1 nt ng nw etp gp tw => ?_⟩
      refine ⟨t, [.ref g, .ref w], rfl, SqT.of etp, rfl, _, _, rfl, _, [], rfl, rfl, ?_⟩
      have ex1 := k1 x _ exG List.not_mem_nil
      have eg1 := k1 gl _ eg List.not_mem_nil
      have et1 := k1 tl _ et List.not_mem_nil
      refine ⟨.ref x, rfl, x, C, dx, _, .ref gl, rfl, ex1, X.cl, X.nG, pf_gaps .., .inl ⟨rfl, _, SqL.of eg1⟩, .ref g, rfl, gl, _, _, rfl, rfl, eg1, by rw [List.length_map]; exact Nat.lt_of_lt_of_le (by omega : gs.length < 1000) (small1000 (by omega)), ?_⟩
      have ex2 : (upd G1 gl (.lst (gs.map V.ref ++ [.ref g]))) x = some (.ins C dx (pf5 (.ref ah) (.ref ap) (.ref Dl) (.ref gl) (.ref tl))) := by rw [upd_ne ngx.symm]; exact ex1
      have et2 : (upd G1 gl (.lst (gs.map V.ref ++ [.ref g]))) tl = some (.lst (ws.map V.ref)) := by rw [upd_ne ntg]; exact et1
      refine ⟨.ref x, rfl, x, C, dx, _, .ref tl, rfl, ex2, X.cl, X.nT, pf_tow .., .inl ⟨rfl, _, SqL.of et2⟩, .ref w, rfl, tl, _, _, rfl, rfl, et2, by rw [List.length_map]; exact Nat.lt_of_lt_of_le (by omega : ws.length < 1000) (small1000 (by omega)), ?_⟩
      have kF : Keep (gl :: tl :: x :: av) G1 (upd (upd G1 gl (.lst (gs.map V.ref ++ [.ref g]))) tl (.lst (ws.map V.ref ++ [.ref w]))) := (Keep.put m1).trans (Keep.put m2)
      have kF0 : Keep (gl :: tl :: x :: av) G (upd (upd G1 gl (.lst (gs.map V.ref ++ [.ref g]))) tl (.lst (ws.map V.ref ++ [.ref w]))) := k1.of.trans kF
      have i0 : (0 + (i : Int)) = (i : Int) := by omega
      rw [i0] at gp tw
      refine ⟨_, _, _, rfl, ?_, kG2.trans kF0, (tr1.upd).upd, by rw [upd_ne ntx.symm]; exact ex2, gs ++ [g], ws ++ [w], by rw [List.length_append, lg]; rfl, by rw [List.length_append, lw]; rfl, ?_, ?_, fun r z e => ?_, fun r z e => ?_⟩
      · exact ((kG.trans k1.of).upd fgH).upd ftH
      · rw [upd_ne ntg.symm, upd_same, List.map_append]; rfl
      · rw [upd_same, List.map_append]; rfl
      · by_cases c : r < gs.length
        · rw [List.getElem?_append_left c] at e
          exact ⟨(hg r z e).1, (hg r z e).2.keep (hg r z e).1 kF0⟩
        · rw [List.getElem?_append_right (by omega)] at e
          have c2 : r - gs.length = 0 := by
            apply Classical.byContradiction
            intro c2
            rw [List.getElem?_eq_none (by simp; omega)] at e; cases e
          rw [c2] at e
          cases e
          have cr : r = i := by omega
          subst cr
          exact ⟨ng, gp.keep ng kF⟩
      · by_cases c : r < ws.length
        · rw [List.getElem?_append_left c] at e
          exact ⟨(hw r z e).1, (hw r z e).2.keep (hw r z e).1 kF0⟩
        · rw [List.getElem?_append_right (by omega)] at e
          have c2 : r - ws.length = 0 := by
            apply Classical.byContradiction
            intro c2
            rw [List.getElem?_eq_none (by simp; omega)] at e; cases e
          rw [c2] at e
          cases e
          have cr : r = i := by omega
          subst cr
          exact ⟨nw, tw.keep nw kF⟩
    · obtain ⟨s2, s3, s4, rfl, kG, kG2, trG, exG, gs, ws, lg, lw, eg, et, hg, hw⟩ := p
      have sub : ∀ a ∈ av, a ∈ gl :: tl :: x :: av := fun a m => by simp [m]
      have f : ∀ {z : Addr}, z ∉ gl :: tl :: x :: av → z ∉ av := fun nz m => nz (sub _ m)
      have f1 : ∀ {z : Addr}, z ∉ x :: av → z ∉ av := fun nz m => nz (List.mem_cons_of_mem _ m)
      have kav : Keep (x :: av) H G := kG.mono (fun z m => by rw [List.mem_singleton.mp m]; exact List.mem_cons_self)
      have rwG : Rws (gl :: tl :: x :: av) G ds (fun r => doorsTo ps (r : Int) ps.length) 100 := by
        have z : Rws (gl :: tl :: x :: av) HA ds (fun r => doorsTo ps (r : Int) ps.length) 100 := by
          have z1 : Rws (tl :: x :: av) HA ds (fun r => doorsTo ps (r : Int) ps.length) 100 := rwA.more ftl
          exact z1.more fgl
        exact z.keep nds3 kG2
      refine q G kG (fun a m => trG a (sub a m)) ⟨dx, ah, ap, Dl, gl, tl, xp, ds, gs, ws, nx, exG, f1 na, kav ah _ ea na, f1 nb, kav ap _ eb nb, (db.keep kav).less (fun a m => List.mem_cons_of_mem _ m), f nDav, kG2 Dl _ eDA nDav, dl, fun z m => f (nds3 z m), rwG.less sub, ?_, eg, lg, fun r z e => ⟨f (hg r z e).1, (hg r z e).2⟩, ?_, et, lw, fun r z e => ⟨f (hw r z e).1, (hw r z e).2.less sub⟩⟩
      · exact tr.not fgH
      · exact tr.not ftH
end
end Rw

namespace Rw
open PySem PySem.Spec PyProof.Rows L2
/-! ### how far places lie apart -/
def onePipe (p q : Pl) : Bool := decide (p.length = 2) && (decide (q.length = 2) && decide (p.headD 0 = q.headD 0))
def exitsL (ps : List Pi) : Pl → List (List Int)
  | [r] => [[r, 0]]
  | [i, a] => [[(pr ps i).x, a], [(pr ps i).y, (pr ps i).l - a]]
  | _ => []
theorem Dt.nil {av : List Addr} {H : Hp} {v : V} {d : PyData} (h : Dt av H v d) : Dt [] H v d := h.less fun _ m => nomatch m
section
variable {P : Program} {w : World} {K : PySem.W.Frag} {mg : Str → Option Value} {base : Heap}
abbrev sOnePipe : Stmt := topS 6
abbrev nOnePipe : List Str := ["one", "other"]
theorem scOnePipe : FnScope nOnePipe ["one", "other"] (defScope sOnePipe) := ⟨rfl, rfl, rfl, by decide +kernel, rfl, by decide +kernel, by decide +kernel⟩
def spOnePipe : Sp := fun vs H Q _ => ∃ (o1 o2 : V) (p q : Pl), vs = [o1, o2] ∧ Dt [] H o1 (tupI p) ∧ Dt [] H o2 (tupI q) ∧ p ≠ [] ∧ q ≠ [] ∧ Q (.bl (onePipe p q)) H
theorem ok_onePipe (h : Has K mg "are_in_one_pipe" sOnePipe) (B : Blt mg) : Can P w K mg base "are_in_one_pipe" ["one", "other"] 1 spOnePipe := by
  obtain ⟨f, fd, F, g⟩ := h
  refine ⟨f, fd, F.ok (k := 0) scOnePipe (fun vs H Q E h => ?_) (fun cdv A outer s H vs Q E hr h => ?_), g, F.kp, F.binds fun _ _ _ _ _ _ us hl => match us, hl with | [_, _], _ => rfl⟩
  · obtain ⟨o1, o2, p, q, rfl, _⟩ := h
    rfl
  · obtain ⟨o1, o2, p, q, rfl, h1, h2, n1, n2, k⟩ := h
    refine ⟨_, pss_one (ps_ret (pe_and (pe_cmpR op_eq (pe_callB call_len_seq (by rfl) B.len_ PySem.boot_len (pa_cons (pv 0) pa_nil)) pe_int (nomark _)) (pe_and (pe_cmpR op_eq (pe_callB call_len_seq (by rfl) B.len_ PySem.boot_len (pa_cons (pv 1) pa_nil)) pe_int (nomark _)) (pe_one (pe_cmpR op_eq (pe_ix ix_tup (pv 0) pe_int (fun _ _ => rfl)) (pe_ix ix_tup (pv 1) pe_int (fun _ _ => rfl)) (nomark _)))))), ?_⟩
    obtain ⟨a1, rfl, _, e1⟩ := tupI_at h1
    obtain ⟨a2, rfl, _, e2⟩ := tupI_at h2
    obtain ⟨x, xs, rfl⟩ := List.exists_cons_of_ne_nil n1
    obtain ⟨y, ys, rfl⟩ := List.exists_cons_of_ne_nil n2
    have l1 : decide (V.int (((x :: xs).map V.int).length : Int) = V.int 2) = decide ((x :: xs).length = 2) := by
      rw [List.length_map]; exact decide_eq_decide.mpr ⟨fun z => by have := V.int.inj z; omega, fun z => by rw [z]; rfl⟩
    have l2 : decide (V.int (((y :: ys).map V.int).length : Int) = V.int 2) = decide ((y :: ys).length = 2) := by
      rw [List.length_map]; exact decide_eq_decide.mpr ⟨fun z => by have := V.int.inj z; omega, fun z => by rw [z]; rfl⟩
    refine ⟨.ref a1, rfl, a1, _, rfl, .inr (SqT.of e1), rfl, _, rfl, ?_⟩
    rw [l1]
    unfold onePipe at k
    cases c1 : decide ((x :: xs).length = 2) with
    | false => rw [c1] at k; exact iteF k
    | true =>
      rw [c1] at k
      refine iteT ⟨.ref a2, rfl, a2, _, rfl, .inr (SqT.of e2), rfl, _, rfl, ?_⟩
      rw [l2]
      cases c2 : decide ((y :: ys).length = 2) with
      | false => rw [c2] at k; exact iteF k
      | true =>
        rw [c2] at k
        refine iteT ⟨.ref a1, rfl, a1, _, 0, .int x, rfl, rfl, SqT.of e1, atI_nat (j := 0) rfl, .ref a2, rfl, a2, _, 0, .int y, rfl, rfl, SqT.of e2, atI_nat (j := 0) rfl, rfl, ?_⟩
        have z : decide (V.int x = V.int y) = decide ((x :: xs).headD 0 = (y :: ys).headD 0) := decide_eq_decide.mpr ⟨fun z => V.int.inj z, fun z => congrArg V.int z⟩
        rw [z]; exact k
abbrev sExits : Stmt := topS 7
abbrev nExits : List Str := ["plan", "place", "one", "other", "length"]
theorem scExits : FnScope nExits ["plan", "place"] (defScope sExits) := ⟨rfl, rfl, rfl, by decide +kernel, rfl, by decide +kernel, by decide +kernel⟩
def spExits (C : Addr) : Sp := fun vs H Q _ => ∃ (a : Addr) (v : V) (n : Int) (ps : List Pi) (d : Int → Int → Int) (p : Pl) (av : List Addr), vs = [.ref a, v] ∧ PlanAt C [] H a n ps d ∧ Dt [] H v (tupI p) ∧ okP n ps p ∧ Tr av H ∧
  ∀ (H' : Hp) (l : Addr) (us : List V), Keep [] H H' → l ∉ av → H' l = some (.lst us) → Dts av H' us ((exitsL ps p).map tupI) → Q (.ref l) H'
theorem ok_exits {C : Addr} (h : Has K mg "exits_of" sExits) (B : Blt mg) (X : PlanTxt K C) : Can P w K mg base "exits_of" ["plan", "place"] 1 (spExits C) := by
  obtain ⟨f, fd, F, g⟩ := h
  refine ⟨f, fd, F.ok (k := 0) scExits (fun vs H Q E h => ?_) (fun cdv A outer s H vs Q E hr h => ?_), g, F.kp, F.binds fun _ _ _ _ _ _ us hl => match us, hl with | [_, _], _ => rfl⟩
  · obtain ⟨a, v, n, ps, d, p, av, rfl, _⟩ := h
    rfl
  · obtain ⟨a, v, n, ps, d, p, av, rfl, pl, hv, ok, tr, k⟩ := h
    refine ⟨_, pss_cons (ps_if (pt_cmpR op_eq (pe_callB call_len_seq (by rfl) B.len_ PySem.boot_len (pa_cons (pv 1) pa_nil)) pe_int (nomark _)) (pss_one (ps_ret (pe_lst (pa_cons (pe_tup (pa_cons (pe_ix ix_tup (pv 1) pe_int (fun _ _ => rfl)) (pa_cons pe_int pa_nil))) pa_nil)))) pss_nil)
      (pss_cons (ps_asg (pe_slice sl_tup (pe_ix ix_tup (pe_fld (pv 0) rfl) (pe_ix ix_tup (pv 1) pe_int (fun _ _ => rfl)) (fun _ _ => rfl)) po_none (po_some pe_int)) (pg_tup (by rfl) (pgs_cons (pg_name (i := 2) scExits.nd rfl (by first | exact Or.inl rfl | exact Or.inr rfl)) (pgs_cons (pg_name (i := 3) scExits.nd rfl (by first | exact Or.inl rfl | exact Or.inr rfl)) (pgs_cons (pg_name (i := 4) scExits.nd rfl (by first | exact Or.inl rfl | exact Or.inr rfl)) pgs_nil)))))
      (pss_one (ps_ret (pe_lst (pa_cons (pe_tup (pa_cons (pv 2) (pa_cons (pe_ix ix_tup (pv 1) pe_int (fun _ _ => rfl)) pa_nil))) (pa_cons (pe_tup (pa_cons (pv 3) (pa_cons (pe_op op_sub (pv 4) (pe_ix ix_tup (pv 1) pe_int (fun _ _ => rfl))) pa_nil))) pa_nil)))))), ?_⟩
    obtain ⟨a1, rfl, _, e1⟩ := tupI_at hv
    rcases ok_cases ok with ⟨r, rfl, r0, r1⟩ | ⟨i, b, rfl, h0, h1, b0, b1⟩
    · refine ⟨.ref a1, rfl, a1, _, rfl, .inr (SqT.of e1), rfl, true, rfl, iteT ?_⟩
      refine ⟨.ref a1, rfl, a1, _, 0, .int r, rfl, rfl, SqT.of e1, atI_nat (j := 0) rfl, show 2 ≤ sizeLine by decide, fun t nt => ⟨show 1 ≤ sizeLine by decide, fun l nl => ?_⟩⟩
      exact k _ l _ ((Keep.new nt).trans (Keep.new nl)) ((tr.upd).not nl) upd_same (.cons (.tup (tr.not nt) (Keep.new (av := []) nl t _ upd_same List.not_mem_nil) (Dts.ints [r, 0])) .nil)
    · refine ⟨.ref a1, rfl, a1, _, rfl, .inr (SqT.of e1), rfl, false, rfl, iteF ?_⟩
      obtain ⟨dx, hb, pp, dl, gl, tl, xp, ds, gs, ws, a1', a2, a3, a4, a5, a6, a7, _⟩ := pl
      obtain ⟨p, pa, T1, T2, mp, gp, ga, epa⟩ := pi_at a7 h0 h1
      have epr : p = pr ps i := by
        have z := (pr_mem h0 h1).2
        rw [z] at gp; exact (Option.some.inj gp).symm
      subst epr
      refine ⟨.ref a, rfl, a, C, dx, _, .ref pp, rfl, a2, X.cl, X.nP, pf_pipes .., .ref a1, rfl, a1, _, 0, .int i, rfl, rfl, SqT.of e1, atI_nat (j := 0) rfl, pp, xp, i, .ref pa, rfl, rfl, SqT.of a6, ga, 3, rfl, pa, [.int (pr ps i).x, .int (pr ps i).y, .int (pr ps i).l, .ref T1, .ref T2], rfl, SqT.of epa, show ¬ (HT.sIx 5 0 none = 0 ∧ HT.sIx 5 5 (some 3) = 5) by decide +kernel, fun T3 nT3 => ?_⟩
      refine ⟨T3, [.int (pr ps i).x, .int (pr ps i).y, .int (pr ps i).l], rfl, SqT.of (upd_same.trans (congrArg some (congrArg HO.tup (cut_to _ 3)))), rfl, _, _, rfl, _, _, rfl, _, [], rfl, rfl, ?_⟩
      have e2 := Keep.new (av := []) (o := .tup (cutV [V.int (pr ps i).x, .int (pr ps i).y, .int (pr ps i).l, .ref T1, .ref T2] none (some 3))) nT3 a1 _ e1 List.not_mem_nil
      refine ⟨.int (pr ps i).x, rfl, .ref a1, rfl, a1, _, 1, .int b, rfl, rfl, SqT.of e2, atI_nat (j := 1) rfl, show 2 ≤ sizeLine by decide, fun t nt => ?_⟩
      have e3 := Keep.new (av := []) (o := .tup [.int (pr ps i).x, .int b]) nt a1 _ e2 List.not_mem_nil
      refine ⟨.int (pr ps i).y, rfl, .int (pr ps i).l, rfl, .ref a1, rfl, a1, _, 1, .int b, rfl, rfl, SqT.of e3, atI_nat (j := 1) rfl, (pr ps i).l, b, rfl, rfl, show 2 ≤ sizeLine by decide, fun u nu => ⟨show 2 ≤ sizeLine by decide, fun l nl => ?_⟩⟩
      have kl : Keep [] _ _ := Keep.new (av := []) (o := .lst [.ref t, .ref u]) nl
      have ku : Keep [] _ _ := Keep.new (av := []) (o := .tup [.int (pr ps i).y, .int ((pr ps i).l - b)]) nu
      exact k _ l _ ((Keep.new nT3).trans ((Keep.new nt).trans (ku.trans kl))) ((((tr.upd).upd).upd).not nl) upd_same
        (.cons (.tup ((tr.upd).not nt) (kl t _ (ku t _ upd_same List.not_mem_nil) List.not_mem_nil) (Dts.ints [(pr ps i).x, b])) (.cons (.tup (((tr.upd).upd).not nu) (kl u _ upd_same List.not_mem_nil) (Dts.ints [(pr ps i).y, (pr ps i).l - b])) .nil))
end
end Rw

namespace Rw
open PySem PySem.Spec PyProof.Rows L2
theorem hu10 {k : Nat} {A : Around} (hr : Room k A) : A.units + 10 < cLine := by have := hr.units; omega
/-! the rows that are compared -/
def trip (d : Int → Int → Int) (e f : List Int) : List Int := [e.getD 1 0 + d (e.getD 0 0) (f.getD 0 0) + f.getD 1 0, e.getD 0 0, f.getD 0 0]
def trips (ps : List Pi) (d : Int → Int → Int) (p q : Pl) : List (List Int) := (exitsL ps p).flatMap fun e => (exitsL ps q).map (trip d e)
theorem exits_ok {n : Int} {ps : List Pi} {d : Int → Int → Int} (T : Tm n ps d) {p : Pl} (h : okP n ps p) : ∀ e ∈ exitsL ps p, ∃ r b, e = [r, b] ∧ 0 ≤ r ∧ r < n := by
  intro e he
  rcases ok_cases h with ⟨r, rfl, r0, r1⟩ | ⟨i, b, rfl, h0, h1, b0, b1⟩
  · rw [List.mem_singleton.mp (show e ∈ [[r, 0]] from he)]; exact ⟨r, 0, rfl, r0, r1⟩
  · obtain ⟨x0, x1, y0, y1, _⟩ := T.at h0 h1
    rcases List.mem_cons.mp (show e ∈ [[(pr ps i).x, b], [(pr ps i).y, (pr ps i).l - b]] from he) with rfl | he
    · exact ⟨_, _, rfl, x0, x1⟩
    · rw [List.mem_singleton.mp he]; exact ⟨_, _, rfl, y0, y1⟩
theorem exits_few (ps : List Pi) (p : Pl) : (exitsL ps p).length ≤ 2 := by
  unfold exitsL
  split <;> simp
theorem exits_ne {n : Int} {ps : List Pi} {p : Pl} (h : okP n ps p) : exitsL ps p ≠ [] := by
  rcases ok_cases h with ⟨r, rfl, _⟩ | ⟨i, b, rfl, _⟩
  · intro z; cases z
  · intro z; cases z
theorem lay_tups : ∀ nss : List (List Int), PyData.canLayAll0 (nss.map tupI) = true
  | [] => by simp only [List.map_nil, PyData.canLayAll0]
  | n :: ns => by
    rw [List.map_cons]
    show (PyData.canLay0 (.tuple (n.map .int)) && PyData.canLayAll0 (ns.map tupI)) = true
    rw [lay_tups ns, Bool.and_true]
    show PyData.canLay0 (.tuple (n.map .int)) = true
    simp only [PyData.canLay0, tupI_lay n]
section
variable {P : Program} {w : World} {K : PySem.W.Frag} {mg : Str → Option Value} {base : Heap}
abbrev sShort : Stmt := topS 8
abbrev nShort : List Str := ["plan", "one", "other", "near", "begin", "far", "end"]
theorem scShort : FnScope nShort ["plan", "one", "other"] (defScope sShort) := ⟨rfl, rfl, rfl, by decide +kernel, rfl, by decide +kernel, by decide +kernel⟩
def spShort (C : Addr) : Sp := fun vs H Q _ => ∃ (a : Addr) (o1 o2 : V) (n : Int) (ps : List Pi) (d : Int → Int → Int) (p q : Pl), vs = [.ref a, o1, o2] ∧ PlanAt C [] H a n ps d ∧ Tm n ps d ∧ Dt [] H o1 (tupI p) ∧ Dt [] H o2 (tupI q) ∧ okP n ps p ∧ okP n ps q ∧
  ∀ (H' : Hp) (v : V) (ns : List Int), Keep [] H H' → Dt [] H' v (tupI ns) → ns ∈ trips ps d p q → (∀ m ∈ trips ps d p q, ns.headD 0 ≤ m.headD 0) → Q v H'
theorem ok_short {C : Addr} (h : Has K mg "shortest" sShort) (B : Blt mg) (X : PlanTxt K C) (CE : Can P w K mg base "exits_of" ["plan", "place"] 1 (spExits C)) : Can P w K mg base "shortest" ["plan", "one", "other"] 2 (spShort C) := by
  obtain ⟨f, fd, F, g⟩ := h
  refine ⟨f, fd, F.ok (k := 1) scShort (fun vs H Q E h => ?_) (fun cdv A outer s H vs Q E hr h => ?_), g, F.kp, F.binds fun _ _ _ _ _ _ us hl => match us, hl with | [_, _, _], _ => rfl⟩
  · obtain ⟨a, o1, o2, n, ps, d, p, q, rfl, _⟩ := h
    rfl
  · obtain ⟨a, o1, o2, n, ps, d, p, q, rfl, pl, T, h1, h2, okp, okq, k⟩ := h
    refine ⟨_, pss_one (ps_ret (pe_callB (cr_minT rfl (hu10 hr)) (by rfl) B.min_ boot_min (pa_cons (pe_lc2 (own := [("near", 3), ("begin", 4), ("far", 5), ("end", 6)]) (vs1 := [5, 6]) (tt := tYes) (tt1 := tYes) rfl scShort.nd (pi_list (pe_can CE (hr.mono (by decide)) (by rfl) (pa_cons (pv 0) (pa_cons (pv 1) pa_nil)))) (blkOk_by (N := nShort) (sc := defScope sShort) (by decide +kernel)) (by decide) (fun _ _ _ _ _ => (pg_tupK (K := K) (n := 2) rfl (by rfl) (pgs_cons (pg_name (i := 3) scShort.nd rfl (by first | exact Or.inl rfl | exact Or.inr rfl)) (pgs_cons (pg_name (i := 4) scShort.nd rfl (by first | exact Or.inl rfl | exact Or.inr rfl)) pgs_nil)))) (fun _ _ _ _ _ => pts_nil) (fun _ _ _ _ _ => (pi_listK (K := K) rfl (pe_can CE (hr.mono (by decide)) (by rfl) (pa_cons (pv 0) (pa_cons (pv 2) pa_nil))))) (fun _ _ _ _ _ => (pg_tupK (K := K) (n := 2) rfl (by rfl) (pgs_cons (pg_name (i := 5) scShort.nd rfl (by first | exact Or.inl rfl | exact Or.inr rfl)) (pgs_cons (pg_name (i := 6) scShort.nd rfl (by first | exact Or.inl rfl | exact Or.inr rfl)) pgs_nil)))) (fun _ _ _ _ _ => pts_nil) (fun _ _ _ _ _ => (pe_tup (pa_cons (pe_op op_add (pe_op op_add (pv 4) (pe_dget (hu_of hr) (pe_ix (ix_listK (K := K) rfl) (pe_fldK (K := K) rfl (pv 0) rfl) (pv 3) (fun _ _ => rfl)) (pv 5) (fun _ _ => rfl))) (pv 6)) (pa_cons (pv 3) (pa_cons (pv 5) pa_nil)))))) pa_nil))), ?_⟩
    refine ⟨.ref a, rfl, o1, rfl, a, o1, n, ps, d, p, [], rfl, pl, h1, okp, (show Tr [] H from fun _ m => absurd m List.not_mem_nil), fun H1 l1 us k1 _ el1 du1 => ?_⟩
    refine ⟨l1, rfl, ⟨_, SqL.of el1⟩, fun D nD => ?_⟩
    have nl1 : l1 ≠ D := ne_of_none el1 nD
    have duD := du1.more nD
    have ul : us.length = (exitsL ps p).length := by rw [du1.len, List.length_map]
    have few1 := exits_few ps p
    have few2 := exits_few ps q
    refine ⟨fun i m G => m = us.length - i ∧ i ≤ us.length ∧ Keep [] H1 G ∧ ∃ acc : List V, G D = some (.lst acc) ∧ acc.length ≤ 2 * i ∧ Dts [D] G acc ((((exitsL ps p).take i).flatMap fun e => (exitsL ps q).map (trip d e)).map tupI), ⟨_, rfl, Nat.zero_le _, Keep.new nD, [], upd_same, Nat.zero_le _, .nil⟩, fun i m G z => ?_⟩
    obtain ⟨rfl, hi, kG, acc, eG, lG, dG⟩ := z
    have elG := kG l1 _ el1 List.not_mem_nil
    by_cases c : i < us.length
    · refine .inr ⟨⟨_, us[i], SqL.of elG, List.getElem?_eq_getElem c⟩, fun G' => Keep [] H1 G' ∧ ∃ acc : List V, G' D = some (.lst acc) ∧ acc.length ≤ 2 * (i + 1) ∧ Dts [D] G' acc ((((exitsL ps p).take (i + 1)).flatMap fun e => (exitsL ps q).map (trip d e)).map tupI), fun G' z => ⟨us.length - (i + 1), by omega, rfl, by omega, z⟩, fun x G' y => ?_⟩
      obtain ⟨rfl, hy⟩ := y
      have gx := hy us (SqL.of elG)
      have dG1 : Dts [D] G' us ((exitsL ps p).map tupI) := duD.keep kG.of
      obtain ⟨dd, gd, dx⟩ := dG1.getv i gx
      rw [List.getElem?_map] at gd
      obtain ⟨e, ge, rfl⟩ := Option.map_eq_some_iff.mp gd
      obtain ⟨r, b, rfl, r0, r1⟩ := exits_ok T okp e (List.mem_of_getElem? ge)
      obtain ⟨Te, rfl, _, eTe⟩ := tupI_at dx
      refine ⟨Te, [.int r, .int b], rfl, SqT.of eTe, rfl, _, _, rfl, _, [], rfl, rfl, rfl, ?_⟩
      have trD : Tr [D] G' := fun z m => by rw [List.mem_singleton.mp m]; exact ⟨_, eG⟩
      have plG := pl.keep (k1.trans kG)
      refine ⟨.ref a, rfl, o2, rfl, a, o2, n, ps, d, q, [D], rfl, plG, h2.keep (k1.trans kG), okq, trD, fun H4 l2 us2 k4 nl2 el2 du2 => ?_⟩
      have nl2D : l2 ≠ D := fun z => nl2 (by rw [z]; exact List.mem_cons_self)
      have ul2 : us2.length = (exitsL ps q).length := by rw [du2.len, List.length_map]
      refine ⟨l2, rfl, ⟨_, SqL.of el2⟩, ?_⟩
      refine ⟨fun j m J => m = us2.length - j ∧ j ≤ us2.length ∧ Keep [] H1 J ∧ Keep [D] H4 J ∧ ∃ acc : List V, J D = some (.lst acc) ∧ acc.length ≤ 2 * i + j ∧ Dts [D] J acc (((((exitsL ps p).take i).flatMap fun e => (exitsL ps q).map (trip d e)) ++ ((exitsL ps q).take j).map (trip d [r, b])).map tupI), ⟨_, rfl, Nat.zero_le _, kG.trans k4, Keep.refl _ _, acc, k4 D _ eG List.not_mem_nil, by omega, by rw [List.take_zero, List.map_nil, List.append_nil]; exact dG.keep k4.of⟩, fun j m J z => ?_⟩
      obtain ⟨rfl, hj, kJ, kJ4, acc, eJ, lJ, dJ⟩ := z
      have el2J := kJ4 l2 _ el2 nl2
      by_cases c2 : j < us2.length
      · refine .inr ⟨⟨_, us2[j], SqL.of el2J, List.getElem?_eq_getElem c2⟩, fun J' => Keep [] H1 J' ∧ Keep [D] H4 J' ∧ ∃ acc : List V, J' D = some (.lst acc) ∧ acc.length ≤ 2 * i + (j + 1) ∧ Dts [D] J' acc (((((exitsL ps p).take i).flatMap fun e => (exitsL ps q).map (trip d e)) ++ ((exitsL ps q).take (j + 1)).map (trip d [r, b])).map tupI), fun J' z => ⟨us2.length - (j + 1), by omega, rfl, by omega, z⟩, fun x J' y => ?_⟩
        obtain ⟨rfl, hy⟩ := y
        have gx2 := hy us2 (SqL.of el2J)
        obtain ⟨dd, gd2, dx2⟩ := (du2.keep kJ4).getv j gx2
        rw [List.getElem?_map] at gd2
        obtain ⟨e2, ge2, rfl⟩ := Option.map_eq_some_iff.mp gd2
        obtain ⟨s2, b2, rfl, s0, s1⟩ := exits_ok T okq e2 (List.mem_of_getElem? ge2)
        obtain ⟨Tf, rfl, _, eTf⟩ := tupI_at dx2
        obtain ⟨dxx, hb, pp, dl, gl, tl, xp, ds, gs, ws, a1, a2, a3, a4, a5, a6, a7, a8, a9, b1, b2', b3, b4, b5, b6, b7, _⟩ := pl.keep (k1.trans kJ)
        obtain ⟨gz, ggz⟩ : ∃ gz, gs[r.toNat]? = some gz := ⟨_, List.getElem?_eq_getElem (by omega)⟩
        obtain ⟨_, kvs, ekv, hkv⟩ := b7 r.toNat gz ggz
        have hval : valV kvs (Sum.inl s2) = some (.int (d r s2)) := by
          have z := hkv s2 s0 s1
          rw [show ((r.toNat : Nat) : Int) = r by omega] at z; exact z
        refine ⟨Tf, [.int s2, .int b2], rfl, SqT.of eTf, rfl, _, _, rfl, _, [], rfl, rfl, rfl, ?_⟩
        refine ⟨.int b, rfl, .ref a, rfl, a, C, dxx, _, .ref gl, rfl, a2, X.cl, X.nG, pf_gaps .., .int r, rfl, gl, _, r, .ref gz, rfl, rfl, SqL.of b5, atI_of r0 (by rw [List.getElem?_map, ggz]; rfl), .int s2, rfl, gz, .int (d r s2), rfl, by rw [← hval]; exact DGet.k (k := Sum.inl s2) ekv, b, d r s2, rfl, rfl, .int b2, rfl, b + d r s2, b2, rfl, rfl, .int r, rfl, .int s2, rfl, show 3 ≤ sizeLine by decide, fun t nt => ?_⟩
        have ntD : t ≠ D := (ne_of_none eJ nt).symm
        refine ⟨acc, by rw [upd_ne ntD.symm]; exact eJ, Nat.lt_of_lt_of_le (by omega : acc.length < 1000) (small1000 (by omega)), ?_⟩
        have kt : Keep [] J' (upd J' t (.tup [.int (b + d r s2 + b2), .int r, .int s2])) := Keep.new nt
        refine ⟨(kJ.trans kt).upd nD, (kJ4.trans kt.of).trans (Keep.put List.mem_cons_self), acc ++ [.ref t], upd_same, by rw [List.length_append, List.length_singleton]; omega, ?_⟩
        have tk : ((exitsL ps q).take (j + 1)).map (trip d [r, b]) = ((exitsL ps q).take j).map (trip d [r, b]) ++ [[b + d r s2 + b2, r, s2]] := by rw [List.take_add_one, ge2, List.map_append]; rfl
        rw [tk, ← List.append_assoc, List.map_append]
        exact ((dJ.keep kt.of).keep (Keep.put List.mem_cons_self)).app (.cons (.tup (fun m => ntD (List.mem_singleton.mp m)) (by rw [upd_ne ntD]; exact upd_same) (Dts.ints [b + d r s2 + b2, r, s2])) .nil)
      · refine .inl ⟨⟨_, SqL.of el2J, by omega⟩, kJ, acc, eJ, by omega, ?_⟩
        have ej : j = (exitsL ps q).length := by omega
        have tk : ((exitsL ps p).take (i + 1)).flatMap (fun e => (exitsL ps q).map (trip d e)) = ((exitsL ps p).take i).flatMap (fun e => (exitsL ps q).map (trip d e)) ++ (exitsL ps q).map (trip d [r, b]) := by rw [List.take_add_one, ge, List.flatMap_append]; simp
        rw [tk]
        rw [ej, List.take_length] at dJ
        exact dJ
    · have ei : i = (exitsL ps p).length := by omega
      rw [ei, List.take_length] at dG
      refine .inl ⟨⟨_, SqL.of elG, by omega⟩, ?_⟩
      have dG' : Dts [D] G acc ((trips ps d p q).map tupI) := dG
      obtain ⟨ns, nss, et⟩ : ∃ ns nss, trips ps d p q = ns :: nss := by
        obtain ⟨e, es, h1⟩ := List.exists_cons_of_ne_nil (exits_ne okp)
        obtain ⟨f, fs, h2⟩ := List.exists_cons_of_ne_nil (exits_ne okq)
        refine ⟨trip d e f, fs.map (trip d e) ++ es.flatMap (fun e => (exitsL ps q).map (trip d e)), ?_⟩
        unfold trips
        rw [h1, List.flatMap_cons, h2]; rfl
      rw [et] at dG'
      refine ⟨D, acc, ns, nss, rfl, SqL.of eG, Dts.dp _ _ dG' (lay_tups _), fun t v gv gm => ?_⟩
      have gd : ((ns :: nss).map tupI)[t]? = some (tupI (minL ns nss)) := by rw [List.getElem?_map, gm]; rfl
      obtain ⟨v', gv', dv⟩ := dG'.get t gd
      rw [gv] at gv'; cases gv'
      refine k G v (minL ns nss) (k1.trans kG) dv.nil (by rw [et]; exact minL_mem ns nss) ?_
      rw [et]
      refine minL_head nss ns (fun y hy => ?_)
      rw [← et] at hy
      obtain ⟨e, _, h⟩ := List.mem_flatMap.mp hy
      obtain ⟨f', _, rfl⟩ := List.mem_map.mp h
      intro z; cases z
end
end Rw

namespace Rw
open PySem PySem.Spec PyProof.Rows L2
theorem trips_min {n : Int} {ps : List Pi} {d : Int → Int → Int} (T : Tm n ps d) {p q : Pl} (hp : okP n ps p) (hq : okP n ps q) (ne : onePipe p q = false) {ns : List Int} (m : ns ∈ trips ps d p q) (h : ∀ x ∈ trips ps d p q, ns.headD 0 ≤ x.headD 0) : ns.headD 0 = Dp ps d p q := by
  rcases ok_cases hp with ⟨r, rfl, r0, r1⟩ | ⟨i, b, rfl, h0, h1, b0, b1⟩ <;> rcases ok_cases hq with ⟨t, rfl, t0, t1⟩ | ⟨j, a, rfl, k0, k1, a0, a1⟩
  · have m' : ns ∈ [[0 + d r t + 0, r, t]] := m
    rw [List.mem_singleton.mp m']
    show 0 + d r t + 0 = d r t
    omega
  · have e : trips ps d [r] [j, a] = [[0 + d r (pr ps j).x + a, r, (pr ps j).x], [0 + d r (pr ps j).y + ((pr ps j).l - a), r, (pr ps j).y]] := rfl
    rw [e] at m h
    have g1 := h _ List.mem_cons_self
    have g2 := h _ (List.mem_cons_of_mem _ List.mem_cons_self)
    simp only [List.headD_cons] at g1 g2
    show _ = dr ps d r j a
    unfold dr
    rcases List.mem_cons.mp m with rfl | m
    · simp only [List.headD_cons] at g1 g2 ⊢; omega
    · rw [List.mem_singleton.mp m] at g1 g2 ⊢; simp only [List.headD_cons] at g1 g2 ⊢; omega
  · have e : trips ps d [i, b] [t] = [[b + d (pr ps i).x t + 0, (pr ps i).x, t], [(pr ps i).l - b + d (pr ps i).y t + 0, (pr ps i).y, t]] := rfl
    rw [e] at m h
    have g1 := h _ List.mem_cons_self
    have g2 := h _ (List.mem_cons_of_mem _ List.mem_cons_self)
    simp only [List.headD_cons] at g1 g2
    show _ = dr ps d t i b
    unfold dr
    rw [T.sym t (pr ps i).x, T.sym t (pr ps i).y]
    rcases List.mem_cons.mp m with rfl | m
    · simp only [List.headD_cons] at g1 g2 ⊢; omega
    · rw [List.mem_singleton.mp m] at g1 g2 ⊢; simp only [List.headD_cons] at g1 g2 ⊢; omega
  · have nij : ¬ i = j := fun z => by subst z; simp [onePipe] at ne
    have e : trips ps d [i, b] [j, a] = [[b + d (pr ps i).x (pr ps j).x + a, (pr ps i).x, (pr ps j).x], [b + d (pr ps i).x (pr ps j).y + ((pr ps j).l - a), (pr ps i).x, (pr ps j).y],
      [(pr ps i).l - b + d (pr ps i).y (pr ps j).x + a, (pr ps i).y, (pr ps j).x], [(pr ps i).l - b + d (pr ps i).y (pr ps j).y + ((pr ps j).l - a), (pr ps i).y, (pr ps j).y]] := rfl
    rw [e] at m h
    have g1 := h _ List.mem_cons_self
    have g2 := h _ (List.mem_cons_of_mem _ List.mem_cons_self)
    have g3 := h _ (List.mem_cons_of_mem _ (List.mem_cons_of_mem _ List.mem_cons_self))
    have g4 := h _ (List.mem_cons_of_mem _ (List.mem_cons_of_mem _ (List.mem_cons_of_mem _ List.mem_cons_self)))
    simp only [List.headD_cons] at g1 g2 g3 g4
    show _ = (if i = j then ab b a else min (b + dr ps d (pr ps i).x j a) ((pr ps i).l - b + dr ps d (pr ps i).y j a))
    rw [if_neg nij]
    unfold dr
    rcases List.mem_cons.mp m with rfl | m
    · simp only [List.headD_cons] at g1 g2 g3 g4 ⊢; omega
    · rcases List.mem_cons.mp m with rfl | m
      · simp only [List.headD_cons] at g1 g2 g3 g4 ⊢; omega
      · rcases List.mem_cons.mp m with rfl | m
        · simp only [List.headD_cons] at g1 g2 g3 g4 ⊢; omega
        · rw [List.mem_singleton.mp m] at g1 g2 g3 g4 ⊢; simp only [List.headD_cons] at g1 g2 g3 g4 ⊢; omega
theorem one_pipe {n : Int} {ps : List Pi} {d : Int → Int → Int} {p q : Pl} (hp : okP n ps p) (hq : okP n ps q) (h : onePipe p q = true) : ∃ i a b, p = [i, a] ∧ q = [i, b] ∧ Dp ps d p q = ab a b := by
  rcases ok_cases hp with ⟨r, rfl, _⟩ | ⟨i, a, rfl, _⟩ <;> rcases ok_cases hq with ⟨t, rfl, _⟩ | ⟨j, b, rfl, _⟩
  · cases h
  · cases h
  · cases h
  · have e : i = j := by simpa [onePipe] using h
    subst e
    exact ⟨i, a, b, rfl, rfl, if_pos rfl⟩
theorem abs_ab (a b : Int) : (if a - b < 0 then -(a - b) else a - b) = ab a b := by unfold ab; split <;> split <;> omega
theorem ok_ne {n : Int} {ps : List Pi} {p : Pl} (h : okP n ps p) : p ≠ [] := by
  rcases ok_cases h with ⟨r, rfl, _⟩ | ⟨i, a, rfl, _⟩ <;> (intro z; cases z)
section
variable {P : Program} {w : World} {K : PySem.W.Frag} {mg : Str → Option Value} {base : Heap}
abbrev sGap : Stmt := topS 9
abbrev nGap : List Str := ["plan", "one", "other"]
theorem scGap : FnScope nGap ["plan", "one", "other"] (defScope sGap) := ⟨rfl, rfl, rfl, by decide +kernel, rfl, by decide +kernel, by decide +kernel⟩
def spGap (C : Addr) : Sp := fun vs H Q _ => ∃ (a : Addr) (o1 o2 : V) (n : Int) (ps : List Pi) (d : Int → Int → Int) (p q : Pl), vs = [.ref a, o1, o2] ∧ PlanAt C [] H a n ps d ∧ Tm n ps d ∧ Dt [] H o1 (tupI p) ∧ Dt [] H o2 (tupI q) ∧ okP n ps p ∧ okP n ps q ∧
  ∀ H' : Hp, Keep [] H H' → Q (.int (Dp ps d p q)) H'
theorem ok_gap {C : Addr} (h : Has K mg "gap_of" sGap) (B : Blt mg) (CO : Can P w K mg base "are_in_one_pipe" ["one", "other"] 1 spOnePipe) (CS : Can P w K mg base "shortest" ["plan", "one", "other"] 2 (spShort C)) : Can P w K mg base "gap_of" ["plan", "one", "other"] 3 (spGap C) := by
  obtain ⟨f, fd, F, g⟩ := h
  refine ⟨f, fd, F.ok (k := 2) scGap (fun vs H Q E h => ?_) (fun cdv A outer s H vs Q E hr h => ?_), g, F.kp, F.binds fun _ _ _ _ _ _ us hl => match us, hl with | [_, _, _], _ => rfl⟩
  · obtain ⟨a, o1, o2, n, ps, d, p, q, rfl, _⟩ := h
    rfl
  · obtain ⟨a, o1, o2, n, ps, d, p, q, rfl, pl, T, h1, h2, okp, okq, k⟩ := h
    refine ⟨_, pss_cons (ps_if (pt_val (pe_can CO (hr.mono (by decide)) (by rfl) (pa_cons (pv 1) (pa_cons (pv 2) pa_nil)))) (pss_one (ps_ret (pe_callB call_abs (by rfl) B.abs_ boot_abs (pa_cons (pe_op op_sub (pe_ix ix_tup (pv 1) pe_int (fun _ _ => rfl)) (pe_ix ix_tup (pv 2) pe_int (fun _ _ => rfl))) pa_nil)))) pss_nil)
      (pss_one (ps_ret (pe_ix ix_tup (pe_can CS (hr.mono (by decide)) (by rfl) (pa_cons (pv 0) (pa_cons (pv 1) (pa_cons (pv 2) pa_nil)))) pe_int (fun _ _ => rfl)))), ?_⟩
    refine ⟨o1, rfl, o2, rfl, o1, o2, p, q, rfl, h1, h2, ok_ne okp, ok_ne okq, _, rfl, ?_⟩
    cases c : onePipe p q with
    | true =>
      obtain ⟨i, x, y, rfl, rfl, e⟩ := one_pipe (d := d) okp okq c
      obtain ⟨a1, rfl, _, e1⟩ := tupI_at h1
      obtain ⟨a2, rfl, _, e2⟩ := tupI_at h2
      refine iteT ⟨.ref a1, rfl, a1, _, 1, .int x, rfl, rfl, SqT.of e1, atI_nat (j := 1) rfl, .ref a2, rfl, a2, _, 1, .int y, rfl, rfl, SqT.of e2, atI_nat (j := 1) rfl, x, y, rfl, rfl, x - y, rfl, ?_⟩
      rw [abs_ab, ← e]
      exact k H (Keep.refl _ _)
    | false =>
      refine iteF ⟨.ref a, rfl, o1, rfl, o2, rfl, a, o1, o2, n, ps, d, p, q, rfl, pl, T, h1, h2, okp, okq, fun H' v ns kH dv mn hm => ?_⟩
      obtain ⟨t, rfl, _, et⟩ := tupI_at dv
      have e := trips_min T okp okq c mn hm
      obtain ⟨x, xs, rfl⟩ : ∃ x xs, ns = x :: xs := by
        obtain ⟨e, _, h⟩ := List.mem_flatMap.mp mn
        obtain ⟨f', _, rfl⟩ := List.mem_map.mp h
        exact ⟨_, _, rfl⟩
      refine ⟨t, _, 0, .int x, rfl, rfl, SqT.of et, atI_nat (j := 0) rfl, ?_⟩
      have e' : x = Dp ps d p q := e
      rw [e']
      exact k H' kH
/-! a plan is made -/
theorem plan_made {C : Addr} {H : Hp} {h : V} {n : Int} {ps : List Pi} {d : Int → Int → Int} {av : List Addr} {R : VK} {x dx : Addr} (hh : Dt av H h (houseD n (ps.map Pi.dat))) (hk : HouseOk n ps) (T : Tm n ps d) (tr : Tr av H) (nx : H x = none) (ndx : H dx = none) (ne : dx ≠ x)
    (k : ∀ H' : Hp, Keep [] H H' → Tr av H' → PlanAt C av H' x n ps d → R .non H') : spInit C (.ref x :: ([h] ++ [])) (upd (upd H dx (.own x)) x (.ins C dx [])) R E0 := by
  have nx1 : (upd H dx (.own x)) x = none := by rw [upd_ne ne.symm]; exact nx
  have k0 : Keep [] H (upd (upd H dx (.own x)) x (.ins C dx [])) := (Keep.new ndx).trans (Keep.new nx1)
  refine ⟨x, dx, h, n, ps, d, av, rfl, upd_same, tr.not nx, (hh.more nx).keep k0.of, hk, T, (tr.upd).upd, fun H' kH tr' pl => k H' ?_ tr' pl⟩
  exact Keep.drop nx (fun b o e nb => kH b o (k0 b o e List.not_mem_nil) nb)
end
end Rw

namespace Rw
open PySem PySem.Spec PyProof.Rows L2
def aStr : PyData → Bool
  | .str _ => true
  | _ => false
theorem kit_str (d : PyData) : kitB (tn d) "str" = some (aStr d) := by
  cases d <;> first | exact (show kitB "NoneType" "str" = some false by decide +kernel) | exact (show kitB "bool" "str" = some false by decide +kernel) | exact (show kitB "int" "str" = some false by decide +kernel) | exact (show kitB "str" "str" = some true by decide +kernel) | exact (show kitB "list" "str" = some false by decide +kernel) | exact (show kitB "tuple" "str" = some false by decide +kernel) | exact (show kitB "dict" "str" = some false by decide +kernel)
def aLst : PyData → Bool
  | .list _ => true
  | _ => false
theorem kit_lst (d : PyData) : kitB (tn d) "list" = some (aLst d) := by
  cases d <;> first | exact (show kitB "NoneType" "list" = some false by decide +kernel) | exact (show kitB "bool" "list" = some false by decide +kernel) | exact (show kitB "int" "list" = some false by decide +kernel) | exact (show kitB "str" "list" = some false by decide +kernel) | exact (show kitB "list" "list" = some true by decide +kernel) | exact (show kitB "tuple" "list" = some false by decide +kernel) | exact (show kitB "dict" "list" = some false by decide +kernel)
theorem kit_int_lt {K : PySem.W.Frag} : PySem.W.kitAny K (.type "int") [.type "list", .type "tuple"] = some false :=
  kitAny_cons (kit_ty (r := false) (by decide +kernel)) (fun _ => kitAny_cons (kit_ty (r := false) (by decide +kernel)) (fun _ => rfl) (fun e => by cases e)) (fun e => by cases e)
theorem kit_tup_lt {K : PySem.W.Frag} : PySem.W.kitAny K (.type "tuple") [.type "list", .type "tuple"] = some true :=
  kitAny_cons (kit_ty (r := false) (by decide +kernel)) (fun _ => kitAny_cons (kit_ty (r := true) (by decide +kernel)) (fun e => by cases e) (fun _ => rfl)) (fun e => by cases e)
end Rw

namespace Rw
open PySem PySem.Spec PyProof.Rows L2
/-! rules that several laws' own defs want -/
theorem abs_nn (i : Int) : 0 ≤ (if i < 0 then -i else i) := by split <;> omega
theorem st {H : Hp} {p b : Addr} {o u : HO} (n : H p = none) (e : H b = some u) : (upd H p o) b = some u := by rw [upd_ne (ne_of_none e n)]; exact e
variable {X : Cx}
def rNilL (K : PySem.W.Frag) (neg : Bool) : R2 := fun x y H Q => ∃ a b xs, x = .ref a ∧ y = .ref b ∧ SqL K H a xs ∧ SqL K H b [] ∧ Q (.bl (if neg then !xs.isEmpty else xs.isEmpty)) H
theorem op_neNilL (hu : X.A.units < cLine) : OpR X (compareOp .NotEq) (rNilL X.K true) := by
  intro pins s σ H x y v u Q I rx ry h
  obtain ⟨a, b, xs, rfl, rfl, ha, hb, q⟩ := h
  cases rx
  cases ry
  obtain ⟨its, r, pl, _⟩ := I.list ha
  obtain ⟨its2, r2, pl2, _⟩ := I.list hb
  cases r2
  have fin : EP X pins σ Q (.bool (!xs.isEmpty)) s := ⟨.bl (!xs.isEmpty), H, I, rfl, q⟩
  cases r with
  | nil => exact SeqAt.RcNeAt.lists (A := X.A) (s := s) (e := fun _ => true) pl.isList pl2.isList rfl hu (fun j j1 _ => absurd j1 (Nat.not_lt_zero j)) X.prog X.w X.xe _ fin
  | cons _ _ => exact SeqAt.RcNeAt.lists_lengths (A := X.A) (s := s) pl.isList pl2.isList (by simp) hu X.prog X.w X.xe _ fin
theorem op_eqNilL (hu : X.A.units < cLine) : OpR X (compareOp .Eq) (rNilL X.K false) := by
  intro pins s σ H x y v u Q I rx ry h
  obtain ⟨a, b, xs, rfl, rfl, ha, hb, q⟩ := h
  cases rx
  cases ry
  obtain ⟨its, r, pl, _⟩ := I.list ha
  obtain ⟨its2, r2, pl2, _⟩ := I.list hb
  cases r2
  have fin : EP X pins σ Q (.bool xs.isEmpty) s := ⟨.bl xs.isEmpty, H, I, rfl, q⟩
  cases r with
  | nil => exact SeqAt.RcAt.lists (A := X.A) (s := s) (e := fun _ => true) pl.isList pl2.isList rfl hu (fun j j1 _ => absurd j1 (Nat.not_lt_zero j)) X.prog X.w X.xe _ fin
  | cons _ _ => exact SeqAt.RcAt.lists_lengths (A := X.A) (s := s) pl.isList pl2.isList (by simp) hu X.prog X.w X.xe _ fin
end Rw

namespace Rw
open PySem PySem.Spec PyProof.Rows L2
/-! ### dict(pairs), each key a tuple, none twice -/
abbrev RowT := Addr × Addr × List Key × V
def rDictT (K : PySem.W.Frag) : List V → Hp → VK → Prop := fun xs H Q => ∃ (a : Addr) (rows : List RowT), xs = [.ref a] ∧ SqL K H a (rows.map fun r => V.ref r.1) ∧
  (∀ r ∈ rows, H r.1 = some (.tup [.ref r.2.1, r.2.2.2]) ∧ H r.2.1 = some (.tup (r.2.2.1.map kV))) ∧ (rows.map (·.2.2.1)).Nodup ∧
  ∀ p, H p = none → Q (.ref p) (upd H p (.dT (rows.map fun r => (r.2.2.1, r.2.2.2))))
theorem atKey_none {κ : Type} [DecidableEq κ] : ∀ {xs : List (κ × Addr × Value)} {k : κ}, (∀ x ∈ xs, x.1 ≠ k) → atKey xs k = none := by
  intro xs k h
  unfold atKey
  rw [Option.map_eq_none_iff, List.find?_eq_none]
  intro x hx
  simpa using h x hx
theorem storedAll_nodup {κ : Type} [DecidableEq κ] : ∀ (ps acc : List (κ × Addr × Value)), ((acc ++ ps).map (·.1)).Nodup → storedAllH acc ps = acc ++ ps
  | [], acc, _ => by rw [List.append_nil]; rfl
  | p :: ps, acc, nd => by
    show storedAllH (storedH acc p.1 p.2.1 p.2.2) ps = acc ++ p :: ps
    rw [storedH_new (atKey_none fun x hx z => by
      rw [List.map_append, List.nodup_append] at nd
      exact nd.2.2 x.1 (List.mem_map.mpr ⟨x, hx, rfl⟩) p.1 (List.mem_map.mpr ⟨p, List.mem_cons_self, rfl⟩) z), storedAll_nodup ps (acc ++ [p]) (by rw [List.append_assoc]; exact nd), List.append_assoc]
    rfl
theorem rows_at {X : Cx} {pins : List (Addr × Obj)} {σ : List (Option V)} {H : Hp} {s : Shared} (I : Inv X pins σ H s) : ∀ {rows : List RowT}, (∀ r ∈ rows, H r.1 = some (.tup [.ref r.2.1, r.2.2.2]) ∧ H r.2.1 = some (.tup (r.2.2.1.map kV))) →
    ∃ prs : List (RowT × Value), prs.map (·.1) = rows ∧ ∀ q ∈ prs, RelV q.1.2.2.2 q.2 ∧ IsTup s.heap q.1.1 #[.ref q.1.2.1, q.2]
  | [], _ => ⟨[], rfl, fun _ z => absurd z List.not_mem_nil⟩
  | r :: rows, h => by
    obtain ⟨prs, e, hq⟩ := rows_at I (fun x hx => h x (List.mem_cons_of_mem _ hx))
    obtain ⟨_, its, rv, it⟩ := (show ObjOk X.prog X.w H s.heap r.1 (.tup [.ref r.2.1, r.2.2.2]) from I.hok r.1 _ (h r List.mem_cons_self).1)
    obtain ⟨k0, y0, eq0, rk0, ry0⟩ := vals2 rv
    subst eq0
    cases (show k0 = Value.ref r.2.1 from rk0)
    refine ⟨(r, y0) :: prs, by rw [List.map_cons, e], fun q hm => ?_⟩
    rcases List.mem_cons.mp hm with rfl | hm
    · exact ⟨ry0, it⟩
    · exact hq q hm
theorem call_dictT {X : Cx} (hcalm : X.calm = true) (hu : X.A.units + 2 < cLine) : CallR X (.type "dict") (rDictT X.K) := by
  intro pins s σ H args vals Q I r ask
  obtain ⟨a, rows, ex, hq, hrow, nd, q⟩ := ask
  subst ex
  obtain ⟨u, eu, rx⟩ := vals1 r
  subst eu
  cases rx
  obtain ⟨its, rv, plain, hz⟩ := I.list hq
  have ei : its = rows.map fun r => Value.ref r.1 := by
    have := refs_at (ps := rows.map (·.1)) (us := its) (by rw [List.map_map]; exact rv)
    rw [this, List.map_map]; rfl
  subst ei
  rw [List.length_map] at hz
  obtain ⟨prs, ep, hpr⟩ := rows_at I hrow
  subst ep
  rw [List.length_map] at hz
  obtain ⟨ob, n, ho, hc, hd, hdat⟩ := plain
  have his : ∀ x ∈ prs.map (fun q : RowT × Value => (q.1.2.2.1, q.1.2.1, q.2)), (tupleKind (mixKind X.prog X.w)).is s.heap x.1 x.2.1 := fun x hx => by
    obtain ⟨q', hq', rfl⟩ := List.mem_map.mp hx
    exact key_of I.hok (hrow q'.1 (List.mem_map.mpr ⟨q', hq', rfl⟩)).2
  refine call_dict_pairsH (knd := tupleKind (mixKind X.prog X.w)) (ps := prs.map fun q => (q.1.2.2.1, q.1.2.1, q.2)) (PairArg.list a _ (fun j => (prs.map (·.1.1)).getD j 0) (prs.map fun q => (.ref q.1.2.1, q.2))) (I.ok.hd hcalm) (show X.A.units + 1 + 1 < cLine by omega)
    ⟨⟨ob, n, ho, hc, hd, hdat⟩, by simp, fun j k v e => ?_⟩ ⟨by simp, fun i key v e => ?_⟩ (fun h' hk x hx => ?_) (by simpa using hz) (fun h' tk dd k => ?_)
  · rw [List.getElem?_map] at e
    obtain ⟨q', g, e'⟩ := Option.map_eq_some_iff.mp e
    cases e'
    refine ⟨?_, .inl ?_⟩
    · show _ = some (Value.ref ((prs.map (·.1.1)).getD j 0)); rw [List.getElem?_toArray, List.getElem?_map, List.getElem?_map, g, List.getD_eq_getElem?_getD, List.getElem?_map, g]; rfl
    · show s.heap.IsTuple ((prs.map (·.1.1)).getD j 0) _
      rw [List.getD_eq_getElem?_getD, List.getElem?_map, g]
      exact (hpr q' (List.mem_of_getElem? g)).2
  · have e2 : (prs.map fun q : RowT × Value => (Value.ref q.1.2.1, q.2))[i]? = some (key, v) := e
    rw [List.getElem?_map] at e2
    obtain ⟨q', g, e'⟩ := Option.map_eq_some_iff.mp e2
    cases e'
    exact ⟨_, _, by rw [List.getElem?_map, g]; rfl, rfl⟩
  · obtain ⟨ob, items, m, h1, h2⟩ := his x hx
    exact ⟨ob, items, m, hk _ _ (Nat.ne_of_lt (Heap.lt_size h1)) List.not_mem_nil h1, h2⟩
  · have nd2 : ((prs.map fun q : RowT × Value => (q.1.2.2.1, q.1.2.1, q.2)).map (·.1)).Nodup := by
      rw [List.map_map]
      rw [List.map_map] at nd
      exact nd
    rw [storedAll_nodup _ [] nd2, List.nil_append] at dd
    obtain ⟨od, es, epo, ho', h2, h3, h4, _, h5⟩ := dd
    have notSys : (s.heap.objs.size == sysModules) = false := by
      rw [beq_eq_false_iff_ne]; exact Nat.ne_of_gt I.big
    have nw := I.hok.fresh (Nat.le_refl s.heap.objs.size)
    refine ⟨.ref s.heap.objs.size, _, I.laid (t' := tk) (fun b o e => k b o List.not_mem_nil e) (Nat.le_refl _) (show ObjOk X.prog X.w _ _ _ (.dT _) from ⟨by rw [List.length_map, List.length_map]; exact hz, notSys, prs.map (fun q => (q.1.2.2.1, q.1.2.1, q.2)), ?_, od, es, epo, ho', h2, h3, h4, h5⟩), rfl, q _ nw⟩
    have go : ∀ l : List (RowT × Value), (∀ z ∈ l, z ∈ prs) → Paired (fun (p : List Key × V) (q : List Key × Addr × Value) => p.1 = q.1 ∧ (upd H s.heap.objs.size (.dT ((prs.map (·.1)).map fun r => (r.2.2.1, r.2.2.2)))) q.2.1 = some (.tup (p.1.map kV)) ∧ RelV p.2 q.2.2) ((l.map (·.1)).map fun r => (r.2.2.1, r.2.2.2)) (l.map fun q => (q.1.2.2.1, q.1.2.1, q.2)) := by
      intro l
      induction l with
      | nil => intro _; exact .nil
      | cons z l ih =>
        intro hl
        have hz' := hl z List.mem_cons_self
        have e2 := (hrow z.1 (List.mem_map.mpr ⟨z, hz', rfl⟩)).2
        exact .cons ⟨rfl, by rw [upd_ne (ne_of_none e2 nw)]; exact e2, (hpr z hz').1⟩ (ih fun y hy => hl y (List.mem_cons_of_mem _ hy))
    exact go prs fun _ h => h
end Rw

namespace Rw
open PySem PySem.Spec PyProof.Rows L2
/-! ### tuples by their data: made, put together, cut -/
theorem tup_new {av : List Addr} {J : Hp} {xs : List V} {ds : List PyData} {Q : VK} (tr : Tr av J) (dx : Dts av J xs ds) (len : xs.length ≤ 1000) (k : ∀ J' r, Keep [] J J' → Tr av J' → J r = none → Dt av J' (.ref r) (.tuple ds) → Q (.ref r) J') : xs.length ≤ sizeLine ∧ ∀ p, J p = none → Q (.ref p) (upd J p (.tup xs)) :=
  ⟨Nat.le_trans len (show 1000 ≤ sizeLine by decide), fun p np => k _ p (Keep.new np) tr.upd np (.tup (tr.not np) upd_same (dx.keep (Keep.new np)))⟩
theorem tup_facts {av : List Addr} {J : Hp} {xs : List V} {ds : List PyData} {p : Addr} (tr : Tr av J) (dx : Dts av J xs ds) (np : J p = none) : Keep [] J (upd J p (.tup xs)) ∧ Tr av (upd J p (.tup xs)) ∧ Dt av (upd J p (.tup xs)) (.ref p) (.tuple ds) :=
  ⟨Keep.new np, tr.upd, .tup (tr.not np) upd_same (dx.keep (Keep.new np))⟩
theorem tup_at {av : List Addr} {J : Hp} {v : V} {ds : List PyData} (h : Dt av J v (.tuple ds)) : ∃ (a : Addr) (xs : List V), v = .ref a ∧ a ∉ av ∧ J a = some (.tup xs) ∧ Dts av J xs ds := by
  cases h with
  | tup n e d => exact ⟨_, _, rfl, n, e, d⟩
theorem cat_data {K : PySem.W.Frag} {av : List Addr} {J : Hp} {x y : V} {dx dy : List PyData} {Q : VK} (hx : Dt av J x (.tuple dx)) (hy : Dt av J y (.tuple dy)) (tr : Tr av J) (len : dx.length + dy.length ≤ 1000) (k : ∀ J' r, Keep [] J J' → Tr av J' → Dt av J' (.ref r) (.tuple (dx ++ dy)) → Q (.ref r) J') : rCatA K x y J Q := by
  obtain ⟨a, xs, rfl, na, ea, da⟩ := tup_at hx
  obtain ⟨b, ys, rfl, nb, eb, db⟩ := tup_at hy
  have lx := da.len
  have ly := db.len
  refine ⟨a, b, xs, ys, rfl, rfl, SqT.of ea, SqT.of eb, Nat.le_trans (by omega : xs.length + ys.length ≤ 1000) (show 1000 ≤ sizeLine by decide), fun z => ?_, fun _ z => ?_, fun _ _ p np => ?_⟩
  · have : dx = [] := List.eq_nil_of_length_eq_zero (by rw [← lx, z]; rfl)
    exact k J b (Keep.refl _ _) tr (by rw [this, List.nil_append]; exact hy)
  · have : dy = [] := List.eq_nil_of_length_eq_zero (by rw [← ly, z]; rfl)
    exact k J a (Keep.refl _ _) tr (by rw [this, List.append_nil]; exact hx)
  · exact k _ p (Keep.new np) tr.upd (.tup (tr.not np) upd_same ((da.app db).keep (Keep.new np)))
theorem six_nat (n d k : Nat) : HT.sIx n d (some (k : Int)) = min k n := HT.sIx_nat ..
theorem front_data {K : PySem.W.Frag} {av : List Addr} {J : Hp} {x : V} {dx : List PyData} {i : Int} {Q : VK} (hx : Dt av J x (.tuple dx)) (tr : Tr av J) (i0 : 0 ≤ i) (k : ∀ J' r, Keep [] J J' → Tr av J' → Dt av J' (.ref r) (.tuple (dx.take i.toNat)) → Q (.ref r) J') : rSlA K x none (some i) J Q := by
  obtain ⟨a, xs, rfl, na, ea, da⟩ := tup_at hx
  have ei : i = ((i.toNat : Nat) : Int) := by omega
  refine ⟨a, xs, rfl, SqT.of ea, fun z => ?_, fun _ p np => ?_⟩
  · have z2 := z.2
    rw [ei, six_nat] at z2
    exact k J a (Keep.refl _ _) tr (by rw [List.take_of_length_le (by rw [← da.len]; omega)]; exact hx)
  · refine k _ p (Keep.new np) tr.upd (.tup (tr.not np) upd_same ?_)
    rw [show cutV xs none (some i) = xs.take i.toNat by have := cut_to xs i.toNat; rw [← ei] at this; exact this]
    exact (da.take _).keep (Keep.new np)
theorem rear_data {K : PySem.W.Frag} {av : List Addr} {J : Hp} {x : V} {dx : List PyData} {i : Int} {Q : VK} (hx : Dt av J x (.tuple dx)) (tr : Tr av J) (i0 : 0 ≤ i) (k : ∀ J' r, Keep [] J J' → Tr av J' → Dt av J' (.ref r) (.tuple (dx.drop i.toNat)) → Q (.ref r) J') : rSlA K x (some i) none J Q := by
  obtain ⟨a, xs, rfl, na, ea, da⟩ := tup_at hx
  have ei : i = ((i.toNat : Nat) : Int) := by omega
  refine ⟨a, xs, rfl, SqT.of ea, fun z => ?_, fun _ p np => ?_⟩
  · have z1 := z.1
    rw [ei, six_nat] at z1
    refine k J a (Keep.refl _ _) tr ?_
    by_cases c : i.toNat = 0
    · rw [c, List.drop_zero]; exact hx
    · have : xs.length = 0 := by omega
      have : dx = [] := List.eq_nil_of_length_eq_zero (by rw [← da.len]; omega)
      rw [this, List.drop_nil, ← this]; exact hx
  · refine k _ p (Keep.new np) tr.upd (.tup (tr.not np) upd_same ?_)
    rw [show cutV xs (some i) none = xs.drop i.toNat by have := cut_from xs i.toNat; rw [← ei] at this; exact this]
    exact (da.drop _).keep (Keep.new np)
end Rw

namespace Rw
open PySem PySem.Spec PyProof.Rows L2
/-! ### sorted(d), the keys tuples of numbers -/
def unK (k : List Key) : List Int := k.map fun z => match z with | .inl i => i | .inr _ => 0
theorem unK_at (ns : List Int) : unK (ns.map Sum.inl) = ns := by
  unfold unK; rw [List.map_map]; exact (List.map_congr_left fun _ _ => rfl).trans (List.map_id ns)
def rSortDT : List V → Hp → VK → Prop := fun vs H Q => ∃ (d : Addr) (kvs : List (List Key × V)), vs = [.ref d] ∧ Rd H d (.dT kvs) ∧ (∀ kv ∈ kvs, ∃ ns : List Int, ns ≠ [] ∧ kv.1 = ns.map Sum.inl) ∧ kvs.length ≤ 1000 ∧
  ∀ p us, H p = none → us.length = kvs.length → (∀ u ∈ us, ∃ (b : Addr) (kv : List Key × V), u = .ref b ∧ kv ∈ kvs ∧ H b = some (.tup (kv.1.map kV))) → Q (.ref p) (upd H p (.lst us))
/-! what was gathered off the entries are the keys' addresses, in their order -/
theorem gathered {prog : Program} {w : World} {rows : List (List Key × Addr × Value)} {ents : Array DictEntry} {got : Array Value} (same : ents.toList = rows.map (entryOfKey (tupleKind (mixKind prog w)))) (many : got.size = ents.size)
    (each : ∀ (i : Nat) (v : Value), got[i]? = some v → ∃ en : DictEntry, ents[i]? = some en ∧ v = en.key) : got.toList = (rows.map fun x => x.2.1).map Value.ref := by
  have many2 : ents.size = rows.length := by rw [← Array.length_toList, same, List.length_map]
  refine List.ext_getElem (by rw [Array.length_toList, many, many2, List.length_map, List.length_map]) fun i i1 i2 => ?_
  rw [Array.length_toList] at i1
  obtain ⟨en, at1, at2⟩ := each i got[i] (Array.getElem?_eq_getElem i1)
  rw [← Array.getElem?_toList, same, List.getElem?_map] at at1
  obtain ⟨x, at3, rfl⟩ := Option.map_eq_some_iff.mp at1
  rw [Array.getElem_toList, at2, List.getElem_map, List.getElem_map]
  rw [List.getElem?_eq_getElem (by omega)] at at3
  rw [Option.some.inj at3]
  rfl
theorem keys_known {H : Hp} : ∀ {kvs : List (List Key × V)} {rows : List (List Key × Addr × Value)}, KT H kvs rows → ∀ x ∈ rows, ∃ kv ∈ kvs, kv.1 = x.1 ∧ H x.2.1 = some (.tup (kv.1.map kV))
  | _, _, .nil, _, m => absurd m List.not_mem_nil
  | p :: _, _, .cons one more, x, m => by
    rcases List.mem_cons.mp m with e | m'
    · subst e; exact ⟨p, List.mem_cons_self, one.1, one.2.1⟩
    · obtain ⟨kv, m2, rest⟩ := keys_known more x m'
      exact ⟨kv, List.mem_cons_of_mem _ m2, rest⟩
theorem cr_sortDT {X : Cx} (quiet : X.calm = true) (room : X.A.units + 10 < cLine) : CallR X (.builtin "sorted") rSortDT := by
  intro pn s0 sl H args vals Q inv rel ask
  obtain ⟨d, kvs, rfl, rd, keyed, few, ans⟩ := ask
  obtain ⟨val, rfl, rv0⟩ := rel.one
  cases rv0
  have obj : ObjOk X.prog X.w H s0.heap d (.dT kvs) := rd.ok inv.hok
  obtain ⟨_, notSys, rows, paired, ob, ents, era, atD, exact_, datD, same, _⟩ := obj
  have many : ents.size = rows.length := by rw [← Array.length_toList, same, List.length_map]
  have many2 : kvs.length = rows.length := paired.length
  have known := keys_known (H := H) paired
  have hp : rows.length ≤ sizeLine := Nat.le_trans (by omega : rows.length ≤ 1000) (show 1000 ≤ sizeLine by decide)
  apply Calls.call_function_entry kind_sorted plain_sorted entry_sorted (args_sorted1 _)
  unfold Builtin.«sorted»
  refine wpAny_bind (m := checkCount _ 1 1 _) (wpAny_pure (wpAny_bind (PySem.W.kdu_collect (A := X.A.in1) (kdl_raw notSys exact_ datD) (inv.ok.hd quiet) atD (by omega) fun hp1 tk got kept items => ?_)))
  have row := gathered same items.1 items.2
  let bs : List VI := rows.map fun x => (V.ref x.2.1, unK x.1)
  have hbs : ∀ b ∈ bs, ∃ (a : Addr) (kv : List Key × V) (ns : List Int), b = (V.ref a, ns) ∧ kv ∈ kvs ∧ ns ≠ [] ∧ H a = some (.tup (kv.1.map kV)) ∧ kv.1 = ns.map Sum.inl := fun b hb => by
    obtain ⟨x, hx', rfl⟩ := List.mem_map.mp hb
    obtain ⟨kv, m, e1, e2⟩ := known x hx'
    obtain ⟨ns, nn, en⟩ := keyed kv m
    refine ⟨x.2.1, kv, ns, ?_, m, nn, e2, en⟩
    show (V.ref x.2.1, unK x.1) = _
    rw [← e1, en, unK_at]
  have lbs : bs.length = rows.length := by simp only [bs, List.length_map]
  have rv : Vals (bs.map (·.1)) got.toList := by
    rw [row, show bs.map (·.1) = (rows.map fun x => x.2.1).map V.ref by simp [bs]]
    exact vals_refs _
  have inv1 : Inv X pn sl H { s0 with heap := hp1, toks := tk } := inv.kept kept
  have dp : DpAll X.K H (bs.map (·.1)) (bs.map encVI) := by
    have go : ∀ l : List VI, (∀ b ∈ l, b ∈ bs) → DpAll X.K H (l.map (·.1)) (l.map encVI) := by
      intro l
      induction l with
      | nil => intro _; exact .nil
      | cons b l ih =>
        intro hl
        obtain ⟨a, kv, ns, rfl, _, _, e, en⟩ := hbs b (hl b List.mem_cons_self)
        refine .cons ?_ (ih fun z hz => hl z (List.mem_cons_of_mem _ hz))
        have e' : H a = some (.tup (ns.map V.int)) := by rw [e, en, List.map_map]; rfl
        exact Dt.dp (av := []) _ _ (.tup List.not_mem_nil e' (Dts.ints ns)) (by show PyData.canLay0 (.tuple (ns.map .int)) = true; simp only [PyData.canLay0, tupI_lay ns])
    exact go bs fun _ h => h
  have len : got.toList.length = rows.length := by rw [row, List.length_map, List.length_map]
  refine wpAny_bind (wpAny_newList ?_ (by rw [len]; exact hp))
  have new : (hp1.push (seqObj "list" got.toList.toArray 0)).get? hp1.objs.size = some (seqObj "list" got.toList.toArray 0) := Heap.get?_push_size _ rfl
  show wpAny _ _ _ _ _ { s0 with heap := hp1.push (seqObj "list" got.toList.toArray 0), toks := tk }
  obtain ⟨as, reads⟩ := Dp.readsAll inv1 _ _ got.toList dp rv
  have er : PySem.W.EachIs (fun v b => ∃ as, Reads (hp1.push (seqObj "list" got.toList.toArray 0)) v (encVI b) as ∧ hp1.objs.size ∉ as) got.toList bs := (each_reads reads).mono fun v b ⟨as, r⟩ =>
    ⟨as, PyProof.Rows.Reads.keeps (fun b o e => Heap.get?_push_of_some _ e) r, fun m => by
      obtain ⟨o', e'⟩ := PyProof.On.reads_mem_get r _ m
      exact absurd (Heap.lt_size e') (Nat.lt_irrefl _)⟩
  refine wpAny_bind (wpAny_holding (PySem.W.list_sort_data (s := { s0 with heap := hp1.push (seqObj "list" got.toList.toArray 0), toks := tk }) (bs := bs) (enc := encVI) (R := fun u b => RelV b.1 u) new (each_vals rv) er (PySem.W.AllAlike.of fun b b' => ?_) (.inl fun dd hd' => ?_) (by rw [lbs]; exact hp) (fun b hb => ?_) (fun out lo ord => ?_)))
  · exact (tupI_alike [b.2, b'.2]).1 _ List.mem_cons_self _ (List.mem_cons_of_mem _ List.mem_cons_self)
  · obtain ⟨b, hb, rfl⟩ := List.mem_map.mp hd'
    obtain ⟨a, kv, ns, rfl, _, nn, _⟩ := hbs b hb
    obtain ⟨x, xs, e⟩ := List.exists_cons_of_ne_nil nn
    exact ⟨.int x, xs.map .int, by show tupI ns = _; unfold tupI; rw [e]; rfl⟩
  · have := tupI_depth [b.2]
    have e : PyData.depthAll ([b.2].map tupI) = max (PyData.depth (encVI b)) 0 := rfl
    have hu' : X.A.in1.units + 1 + (encVI b).depth < cLine := by
      show X.A.units + 1 + 1 + _ < cLine
      omega
    exact hu'
  · rw [dataLe_VI] at ord
    obtain ⟨era2, laid⟩ := sortedHeap_at (vs := got.toList) (out := out.toArray) new
    have hv : Vals ((sortVI bs).map (·.1)) out := vals_each ord
    have lb : ((sortVI bs).map (·.1)).length = kvs.length := by rw [hv.length, lo, lbs, many2]
    have objL : ObjOk X.prog X.w (upd H hp1.objs.size (.lst ((sortVI bs).map (·.1)))) (sortedHeap (hp1.push (seqObj "list" got.toList.toArray 0)) hp1.objs.size got.toList out.toArray) hp1.objs.size (.lst ((sortVI bs).map (·.1))) :=
      ⟨by rw [lb]; exact Nat.le_trans few (show 1000 ≤ sizeLine by decide), out, era2, hv, by simpa using laid⟩
    refine wpAny_pure ⟨_, rfl, .ref hp1.objs.size, _, inv1.laid (t' := tk) (fun b u e => ?_) (Nat.le_refl _) objL, rfl, ans _ _ (inv1.hok.fresh (Nat.le_refl _)) lb (fun u hu' => ?_)⟩
    · have below : b < hp1.objs.size := Heap.lt_size e
      have there : (hp1.push (seqObj "list" got.toList.toArray 0)).get? b = some u := Heap.get?_push_of_some _ e
      exact (sortedHeap_old (Nat.ne_of_lt below) (Heap.lt_size there)).trans there
    · obtain ⟨b, hb, rfl⟩ := List.mem_map.mp hu'
      obtain ⟨a, kv, ns, rfl, m, _, e, _⟩ := hbs b (List.mem_mergeSort.mp hb)
      exact ⟨a, kv, rfl, m, e⟩
end Rw

namespace Rw
open PySem PySem.Spec PyProof.Rows L2
/-! the deck of great cells' digits, a mixed number and a count (at most b) -/
theorem Tr.kp {av xs : List Addr} {H H' : Hp} (t : Tr av H) (k : Keep xs H H') (e : Tr xs H') : Tr av H' := fun a m => by
  by_cases h : a ∈ xs
  · exact e a h
  · obtain ⟨o, z⟩ := t a m; exact ⟨o, k a o z h⟩
theorem Keep.fre {xs : List Addr} {H H' : Hp} {p : Addr} (k : Keep xs H H') (e : Tr xs H') (n : H' p = none) : H p = none := by
  cases z : H p with
  | none => rfl
  | some o =>
    by_cases h : p ∈ xs
    · obtain ⟨u, q⟩ := e p h; rw [n] at q; cases q
    · have := k p o z h; rw [n] at this; cases this
structure Dk (H : Hp) (D G : Addr) (b : Int) : Prop where
  ex : ∃ (rs : List Int) (wh c : Int), H D = some (.lst [.ref G, .int wh, .int c]) ∧ H G = some (.lst (rs.map V.int)) ∧ rs.length ≤ 100 ∧ (∀ r ∈ rs, 0 ≤ r) ∧ 0 ≤ wh ∧ wh < 2305843009213693951 ∧ 0 ≤ c ∧ c ≤ b
  ne : D ≠ G
theorem Dk.mono {H : Hp} {D G : Addr} {b b' : Int} (x : Dk H D G b) (h : b ≤ b') : Dk H D G b' := by
  obtain ⟨⟨rs, wh, c, e1, e2, e3, e4, e5, e6, e7, e8⟩, n⟩ := x
  exact ⟨⟨rs, wh, c, e1, e2, e3, e4, e5, e6, e7, by omega⟩, n⟩
theorem Dk.keep {H H' : Hp} {D G : Addr} {b : Int} (x : Dk H D G b) (k : Keep [] H H') : Dk H' D G b := by
  obtain ⟨⟨rs, wh, c, e1, e2, r⟩, n⟩ := x
  exact ⟨⟨rs, wh, c, k _ _ e1 List.not_mem_nil, k _ _ e2 List.not_mem_nil, r⟩, n⟩
theorem Dk.other {H : Hp} {D G p : Addr} {b : Int} {o : HO} (x : Dk H D G b) (h1 : p ≠ D) (h2 : p ≠ G) : Dk (upd H p o) D G b := by
  obtain ⟨⟨rs, wh, c, e1, e2, r⟩, n⟩ := x
  exact ⟨⟨rs, wh, c, by rw [upd_ne h1.symm]; exact e1, by rw [upd_ne h2.symm]; exact e2, r⟩, n⟩
theorem Dk.nes {H : Hp} {D G p : Addr} {b : Int} (x : Dk H D G b) (n : H p = none) : p ≠ D ∧ p ≠ G := by
  obtain ⟨⟨rs, wh, c, e1, e2, r⟩, _⟩ := x
  exact ⟨(ne_of_none e1 n).symm, (ne_of_none e2 n).symm⟩
theorem Dk.new {H : Hp} {D G p : Addr} {b : Int} {o : HO} (x : Dk H D G b) (n : H p = none) : Dk (upd H p o) D G b := x.other (x.nes n).1 (x.nes n).2
theorem Dk.tr {H : Hp} {D G : Addr} {b : Int} (x : Dk H D G b) : Tr [D, G] H := fun a m => by
  obtain ⟨⟨rs, wh, c, e1, e2, r⟩, _⟩ := x
  rcases List.mem_cons.mp m with rfl | m
  · exact ⟨_, e1⟩
  · rw [List.mem_singleton.mp m]; exact ⟨_, e2⟩
structure Sg (av : List Addr) (D G : Addr) (H J : Hp) (b : Int) : Prop where
  k : Keep [D, G] H J
  dk : Dk J D G b
  tr : Tr av J
theorem Sg.new {av : List Addr} {D G p : Addr} {H J : Hp} {b : Int} {o : HO} (s : Sg av D G H J b) (n : J p = none) : Sg av D G H (upd J p o) b := ⟨s.k.trans (Keep.new n), s.dk.new n, s.tr.upd⟩
theorem Sg.go {av : List Addr} {D G : Addr} {H J J' : Hp} {b b' : Int} (s : Sg av D G H J b) (k : Keep [D, G] J J') (d : Dk J' D G b') : Sg av D G H J' b' := ⟨s.k.trans k, d, s.tr.kp k d.tr⟩
theorem Sg.kp {av : List Addr} {D G : Addr} {H J J' : Hp} {b : Int} (s : Sg av D G H J b) (k : Keep [] J J') : Sg av D G H J' b := s.go k.of (s.dk.keep k)
theorem Sg.free {av : List Addr} {D G p : Addr} {H J : Hp} {b : Int} (s : Sg av D G H J b) (n : J p = none) : H p = none := s.k.fre s.dk.tr n
theorem Sg.mono {av : List Addr} {D G : Addr} {H J : Hp} {b b' : Int} (s : Sg av D G H J b) (h : b ≤ b') : Sg av D G H J b' := ⟨s.k, s.dk.mono h, s.tr⟩
theorem two_in {D G : Addr} {av : List Addr} (m1 : D ∈ av) (m2 : G ∈ av) : ∀ a ∈ [D, G], a ∈ av := fun a m => by
  rcases List.mem_cons.mp m with rfl | m
  · exact m1
  · rw [List.mem_singleton.mp m]; exact m2
theorem not2 {D G p : Addr} (h : p ≠ D ∧ p ≠ G) : p ∉ [D, G] := fun m => by
  rcases List.mem_cons.mp m with m | m
  · exact h.1 m
  · exact h.2 (List.mem_singleton.mp m)
section
variable {P : Program} {w : World} {K : PySem.W.Frag} {mg : Str → Option Value} {base : Heap}
abbrev sBeg : Stmt := topS 14
abbrev nBeg : List Str := ["_law_script", "_law_cell", "_law_greats", "_law_whole"]
theorem scBeg : FnScope nBeg ["_law_script"] (defScope sBeg) := ⟨rfl, rfl, rfl, by decide +kernel, rfl, by decide +kernel, by decide +kernel⟩
def spBeg (K : PySem.W.Frag) : Sp := fun vs H Q _ => ∃ (a : Addr) (ns : List Int), vs = [.ref a] ∧ SqL K H a (ns.map V.int) ∧ ns.length ≤ 63 ∧
  ∀ H' D G, Keep [] H H' → H D = none → H G = none → Dk H' D G 0 → Q (.ref D) H'
theorem ok_beg (h : Has K mg "_law_begin" sBeg) (B : Blt mg) : Can P w K mg base "_law_begin" ["_law_script"] 1 (spBeg K) := by
  obtain ⟨f, fd, F, g⟩ := h
  refine ⟨f, fd, F.ok (k := 0) scBeg (fun vs H Q E h => ?_) (fun cdv A outer s H vs Q E hr h => ?_), g, F.kp, F.binds fun _ _ _ _ _ _ us hl => match us, hl with | [_], _ => rfl⟩
  · obtain ⟨a, ns, rfl, _⟩ := h
    rfl
  · obtain ⟨a, ns, rfl, hS, hlen, q⟩ := h
    refine ⟨_, pss_cons (ps_setLc (i := 2) (own := [("_law_cell", 1)]) (g := gName 1) rfl scBeg.nd rfl rfl (sw_true rfl rfl rfl (by decide +kernel)) (pi_list (pv 0)) (blkOk_by (N := nBeg) (sc := defScope sBeg) (by decide +kernel)) (fun _ _ _ _ _ => (pg_name (i := 1) scBeg.nd rfl (by first | exact Or.inl rfl | exact Or.inr rfl))) (fun _ _ _ _ _ => pts_one (pt_cmpR op_ge (pe_callB call_abs (by rfl) B.abs_ boot_abs (pa_cons (pv 1) pa_nil)) (pe_op op_pow pe_int pe_int) (nomark _))) (fun _ _ _ _ _ => (pe_callB call_abs (by rfl) B.abs_ boot_abs (pa_cons (pv 1) pa_nil))))
      (pss_cons (ps_set (i := 3) scBeg.nd rfl (by first | exact Or.inl rfl | exact Or.inr rfl) (pe_op op_add pe_int (pe_callB call_len_seq (by rfl) B.len_ PySem.boot_len (pa_cons (pv 0) pa_nil))))
      (pss_cons (ps_for PassesOwn.never rfl (pi_list (pv 0)) (pg_name (i := 1) scBeg.nd rfl (by first | exact Or.inl rfl | exact Or.inr rfl))
      (pss_one (ps_set (i := 3) scBeg.nd rfl (by first | exact Or.inl rfl | exact Or.inr rfl) (pe_op op_mod (pe_op op_add (pe_op op_add (pe_op op_mul (pv 3) pe_int) (pe_op op_mul pe_int (pe_callB call_abs (by rfl) B.abs_ boot_abs (pa_cons (pv 1) pa_nil)))) (pe_callTy call_int1 (by rfl) B.int_ boot_int (pa_cons (pe_cmpR op_lt (pv 1) pe_int (nomark _)) pa_nil))) pe_int))))
      (pss_one (ps_ret (pe_lst (pa_cons (pe_revL (pv 2)) (pa_cons (pv 3) (pa_cons pe_int pa_nil)))))))), ?_⟩
    refine ⟨.ref a, rfl, a, rfl, ⟨_, hS⟩, fun Gr nGr => ?_⟩
    refine lc_list (K := K) (a := a) (xs := ns.map V.int)
      (fun i G => Keep [] H G ∧ ∃ cs : List Int, cs.length ≤ i ∧ (∀ n ∈ cs, 0 ≤ n) ∧ G Gr = some (.lst (cs.map V.int)))
      ⟨Keep.new nGr, [], Nat.le_refl _, fun _ m => absurd m List.not_mem_nil, upd_same⟩ (fun i G _ p => p.1.same.seq hS) (fun i x G hx p => ?_) (fun G p => ?_)
    · obtain ⟨k2, cs, l2, c2, e2⟩ := p
      rw [List.getElem?_map] at hx
      obtain ⟨n, hn, rfl⟩ := Option.map_eq_some_iff.mp hx
      have hi : i < ns.length := (List.getElem?_eq_some_iff.mp hn).1
      refine ⟨rfl, .int n, rfl, n, rfl, 10, 18, rfl, rfl, ⟨by decide, by decide, by decide⟩, _, _, rfl, rfl, _, rfl, ite2 (fun _ => ?_) (fun _ => ?_)⟩
      · refine ⟨.int n, rfl, n, rfl, cs.map V.int, e2, by rw [List.length_map]; exact small1000 (by omega), k2.upd nGr, cs ++ [if n < 0 then -n else n], by rw [List.length_append]; show cs.length + 1 ≤ _; omega, fun z hz => ?_, by rw [upd_same, List.map_append]; rfl⟩
        rcases List.mem_append.mp hz with hz | hz
        · exact c2 z hz
        · rw [List.mem_singleton.mp hz]; exact abs_nn n
      · exact ⟨k2, cs, by omega, c2, e2⟩
    · obtain ⟨k2, cs, l2, c2, e2⟩ := p
      rw [List.length_map] at l2
      have hS2 := k2.same.seq hS
      refine ⟨.ref a, rfl, a, _, rfl, .inl hS2, 66, _, rfl, rfl, ?_⟩
      refine ⟨.ref a, rfl, a, rfl, ⟨_, hS2⟩, ?_⟩
      refine for_list (K := K) (a := a) (xs := ns.map V.int) (fun j σ J => J = G ∧ ∃ (s1 : Option V) (wh : Int), σ = [some (.ref a), s1, some (.ref Gr), some (.int wh)] ∧ 0 ≤ wh ∧ wh < 2305843009213693951)
        ⟨rfl, none, _, rfl, by rw [List.length_map]; omega, by rw [List.length_map]; omega⟩ (fun j σ J _ p => by rw [p.1]; exact hS2) (fun j x σ J hx p => ?_) (fun σ J p => ?_)
      · obtain ⟨rfl, s1, wh, rfl, w0, w1⟩ := p
        rw [List.getElem?_map] at hx
        obtain ⟨n, hn, rfl⟩ := Option.map_eq_some_iff.mp hx
        refine ⟨.int wh, rfl, wh, 1000033, rfl, rfl, .inr ⟨by decide, by decide⟩, .int n, rfl, n, rfl, 2, _, rfl, rfl, .inl ⟨by decide, by decide⟩, _, _, rfl, rfl, .int n, rfl, n, 0, rfl, rfl, .inr ⟨_, rfl, _, _, rfl, rfl, _, _, rfl, rfl, (show (0 : Int) < 2305843009213693951 by decide), ?_⟩⟩
        exact ⟨rfl, _, _, rfl, Int.emod_nonneg _ (by decide), Int.emod_lt_of_pos _ (by decide)⟩
      · obtain ⟨rfl, s1, wh, rfl, w0, w1⟩ := p
        refine ⟨.ref Gr, rfl, Gr, _, rfl, SqL.of e2, fun R nR => ?_⟩
        refine ⟨.int wh, rfl, show 3 ≤ sizeLine by decide, fun D nD => ?_⟩
        have k3 : Keep [] H (upd J R (.lst (cs.map V.int).reverse)) := k2.trans (Keep.new nR)
        refine q _ D R (k3.trans (Keep.new nD)) (k3.fre (fun _ m => nomatch m) nD) (k2.fre (fun _ m => nomatch m) nR) ⟨⟨cs.reverse, wh, 0, upd_same, ?_, by rw [List.length_reverse]; omega, fun r hr => c2 r (List.mem_reverse.mp hr), w0, w1, Int.le_refl 0, Int.le_refl 0⟩, (ne_of_none upd_same nD).symm⟩
        rw [upd_ne (ne_of_none upd_same nD), upd_same, List.map_reverse]
abbrev sNx : Stmt := topS 15
abbrev nNx : List Str := ["_law_deck", "_law_many", "_law_rest", "_law_mixed"]
theorem scNx : FnScope nNx ["_law_deck", "_law_many"] (defScope sNx) := ⟨rfl, rfl, rfl, by decide +kernel, rfl, by decide +kernel, by decide +kernel⟩
def spNx : Sp := fun vs H Q _ => ∃ (D G : Addr) (b m : Int), vs = [.ref D, .int m] ∧ 1 ≤ m ∧ m ≤ 100000000000000 ∧ Dk H D G b ∧ b ≤ 1000000000 ∧
  ∀ H' k, Keep [D, G] H H' → Dk H' D G (b + 1) → 0 ≤ k → k < m → Q (.int k) H'
theorem ok_nx (h : Has K mg "_law_next" sNx) (B : Blt mg) : Can P w K mg base "_law_next" ["_law_deck", "_law_many"] 1 spNx := by
  obtain ⟨f, fd, F, g⟩ := h
  refine ⟨f, fd, F.ok (k := 0) scNx (fun vs H Q E h => ?_) (fun cdv A outer s H vs Q E hr h => ?_), g, F.kp, F.binds fun _ _ _ _ _ _ us hl => match us, hl with | [_, _], _ => rfl⟩
  · obtain ⟨D, G, b, m, rfl, _⟩ := h
    rfl
  · obtain ⟨D, G, b, m, rfl, m1, m2, dk, hb, q⟩ := h
    refine ⟨_, pss_cons (ps_while PassesOwn.never (pt_cmpR (op_neNilL hr.units0) (pe_ix ix_list (pv 0) pe_int (fun _ _ => rfl)) (pe_lst pa_nil) (nomark _))
      (pss_cons (ps_set (i := 2) scNx.nd rfl (by first | exact Or.inl rfl | exact Or.inr rfl) (pe_bm0 PySem.F.plainAttrs_list PySem.F.slot_list_pop PySem.F.type_list_pop mt_pop (pe_ix ix_list (pv 0) pe_int (fun _ _ => rfl))))
      (pss_one (ps_if (pt_cmpR op_gt (pv 2) pe_int (nomark _)) (pss_cons (ps_expr (pe_bm PySem.F.plainAttrs_list PySem.F.slot_list_append PySem.F.type_list_append mt_append (pe_ix ix_list (pv 0) pe_int (fun _ _ => rfl)) (pa_cons (pe_op op_fdivW (pv 2) (pv 1)) pa_nil)))
      (pss_one (ps_ret (pe_op op_mod (pv 2) (pv 1))))) pss_nil))))
      (pss_cons (ps_asg (pe_op op_add (pe_ix ix_list (pv 0) pe_int (fun _ _ => rfl)) pe_int) (pg_sub (pv 0) pe_int set_list))
      (pss_cons (ps_set (i := 3) scNx.nd rfl (by first | exact Or.inl rfl | exact Or.inr rfl) (pe_op op_add (pe_op op_mul (pe_ix ix_list (pv 0) pe_int (fun _ _ => rfl)) (pe_op op_add pe_int (pe_op op_mul pe_int (pe_ix ix_list (pv 0) pe_int (fun _ _ => rfl))))) (pe_op op_mul pe_int (pe_ix ix_list (pv 0) pe_int (fun _ _ => rfl)))))
      (pss_cons (ps_set (i := 3) scNx.nd rfl (by first | exact Or.inl rfl | exact Or.inr rfl) (pe_op op_mod (pv 3) pe_int))
      (pss_cons (ps_set (i := 3) scNx.nd rfl (by first | exact Or.inl rfl | exact Or.inr rfl) (pe_op op_mod (pe_op op_mul (pv 3) (pv 3)) pe_int))
      (pss_one (ps_ret (pe_op op_mod (pe_op op_fdiv (pe_op op_mod (pe_op op_mul (pv 3) (pv 3)) pe_int) pe_int) (pv 1)))))))), ?_⟩
    obtain ⟨⟨rs, wh, c, eD, eG, lr, pr, w0, w1, c0, cb⟩, nDG⟩ := dk
    refine ⟨fun m' σ J => ∃ (rs : List Int) (s2 : Option V), σ = [some (.ref D), some (.int m), s2, none] ∧ Keep [D, G] H J ∧ J D = some (.lst [.ref G, .int wh, .int c]) ∧ J G = some (.lst (rs.map V.int)) ∧ rs.length ≤ 100 ∧ (∀ r ∈ rs, 0 ≤ r) ∧ m' = rs.length, ⟨_, rs, none, rfl, Keep.refl _ _, eD, eG, lr, pr, rfl⟩, fun m' σ J p => ?_⟩
    obtain ⟨rs, s2, rfl, kJ, eD, eG, lr, pr, rfl⟩ := p
    refine ⟨.ref D, rfl, D, _, 0, .ref G, rfl, rfl, SqL.of eD, atI_nat (j := 0) rfl, show 0 ≤ sizeLine by decide, fun E nE => ?_⟩
    have nGE : G ≠ E := ne_of_none eG nE
    have nDE : D ≠ E := ne_of_none eD nE
    have eG1 := st (o := .lst []) nE eG
    have eD1 := st (o := .lst []) nE eD
    have kE : Keep [D, G] H (upd J E (.lst [])) := kJ.trans (Keep.new nE)
    refine ⟨G, E, _, rfl, rfl, SqL.of eG1, SqL.of upd_same, _, rfl, ?_⟩
    generalize upd J E (.lst []) = J1 at *
    cases rs with
    | cons r0 rs0 =>
      refine iteT ?_
      obtain ⟨y, ys, ey⟩ : ∃ (y : Int) (ys : List Int), r0 :: rs0 = ys ++ [y] := ⟨(r0 :: rs0).getLast (by simp), (r0 :: rs0).dropLast, (List.dropLast_concat_getLast (by simp)).symm⟩
      rw [ey] at eG1 lr pr ⊢
      have hy : 0 ≤ y := pr y (by simp)
      have pys : ∀ r ∈ ys, 0 ≤ r := fun r hr => pr r (by simp [hr])
      rw [List.length_append] at lr
      have lr' : ys.length + 1 ≤ 100 := lr
      refine ⟨_, fun σ' J' h => h, ?_⟩
      refine ⟨.ref D, rfl, D, _, 0, .ref G, rfl, rfl, SqL.of eD1, atI_nat (j := 0) rfl, .inl ⟨rfl, _, SqL.of eG1⟩, G, _, .int y, rfl, rfl, eG1, by rw [List.length_map, List.length_append, List.map_append, List.getElem?_append_right (by rw [List.length_map]; simp)]; simp, ?_⟩
      rw [List.map_append, List.map_cons, List.map_nil, List.dropLast_concat]
      have eG2 : (upd J1 G (.lst (ys.map V.int))) G = some (.lst (ys.map V.int)) := upd_same
      have eD2 : (upd J1 G (.lst (ys.map V.int))) D = some (.lst [.ref G, .int wh, .int c]) := by rw [upd_ne nDG]; exact eD1
      have k2 : Keep [D, G] H (upd J1 G (.lst (ys.map V.int))) := kE.trans (Keep.put (by simp))
      generalize upd J1 G (.lst (ys.map V.int)) = J2 at *
      refine ⟨.int y, rfl, y, 0, rfl, rfl, _, rfl, ite2 (fun e => ?_) (fun e => ?_)⟩
      · have y0 : 0 < y := of_decide_eq_true e
        refine ⟨.ref D, rfl, D, _, 0, .ref G, rfl, rfl, SqL.of eD2, atI_nat (j := 0) rfl, .inl ⟨rfl, _, SqL.of eG2⟩, .int y, rfl, .int m, rfl, y, m, rfl, rfl, wide_div (b := 64) (by omega) (by omega) (by decide) (by decide), G, _, _, rfl, rfl, eG2, by rw [List.length_map]; exact small1000 (by omega), ?_⟩
        refine ⟨.int y, rfl, .int m, rfl, y, m, rfl, rfl, (show (0 : Int) < m by omega), q _ _ (k2.trans (Keep.put (by simp))) ⟨⟨ys ++ [y / m], wh, c, ?_, ?_, ?_, ?_, w0, w1, c0, by omega⟩, nDG⟩ (Int.emod_nonneg _ (by omega)) (Int.emod_lt_of_pos _ (by omega))⟩
        · rw [upd_ne nDG]; exact eD2
        · rw [upd_same, List.map_append]; rfl
        · rw [List.length_append]; exact lr
        · intro z hz
          rcases List.mem_append.mp hz with hz | hz
          · exact pys z hz
          · rw [List.mem_singleton.mp hz]; exact Int.ediv_nonneg (by omega) (by omega)
      · exact ⟨ys.length, by rw [List.length_append]; show _ < _ + 1; omega, ys, _, rfl, k2, eD2, eG2, by omega, pys, rfl⟩
    | nil =>
      refine iteF ?_
      refine ⟨.ref D, rfl, D, _, 2, .int c, rfl, rfl, SqL.of eD1, atI_nat (j := 2) rfl, c, 1, rfl, rfl, .ref D, rfl, D, _, 2, 2, rfl, rfl, eD1, rfl, ?_⟩
      have eD2 : (upd J1 D (.lst [.ref G, .int wh, .int (c + 1)])) D = some (.lst [.ref G, .int wh, .int (c + 1)]) := upd_same
      have eG2 : (upd J1 D (.lst [.ref G, .int wh, .int (c + 1)])) G = some (.lst []) := by rw [upd_ne nDG.symm]; exact eG1
      have k2 : Keep [D, G] H (upd J1 D (.lst [.ref G, .int wh, .int (c + 1)])) := kE.trans (Keep.put (by simp))
      show (_ : Prop)
      generalize hJ2 : upd J1 D (.lst ([V.ref G, V.int wh, V.int c].set 2 (V.int (c + 1)))) = J2
      have hJ : upd J1 D (.lst [.ref G, .int wh, .int (c + 1)]) = J2 := hJ2
      rw [hJ] at eD2 eG2 k2
      have fin : ∀ x : Int, Q (.int (x / 16 % m)) J2 := fun x =>
        q _ _ k2 ⟨⟨[], wh, c + 1, eD2, eG2, by simp, (fun _ z => absurd z List.not_mem_nil), w0, w1, by omega, by omega⟩, nDG⟩ (Int.emod_nonneg _ (by omega)) (Int.emod_lt_of_pos _ (by omega))
      refine ⟨.ref D, rfl, D, _, 1, .int wh, rfl, rfl, SqL.of eD2, atI_nat (j := 1) rfl, .ref D, rfl, D, _, 2, _, rfl, rfl, SqL.of eD2, atI_nat (j := 2) rfl, 69621, c + 1, rfl, rfl, .inl ⟨by decide, by decide⟩, 48271, _, rfl, rfl, wh, _, rfl, rfl, .inl ⟨by omega, by omega⟩, .ref D, rfl, D, _, 2, _, rfl, rfl, SqL.of eD2, atI_nat (j := 2) rfl, 40692, c + 1, rfl, rfl, .inl ⟨by decide, by decide⟩, _, _, rfl, rfl, ?_⟩
      dsimp only
      generalize wh * (48271 + 69621 * (c + 1)) + 40692 * (c + 1) = x1
      refine ⟨.int x1, rfl, x1, _, rfl, rfl, (show (0 : Int) < 2305843009213693951 by decide), ?_⟩
      have y0 : 0 ≤ x1 % 2305843009213693951 := Int.emod_nonneg _ (by decide)
      have y1 : x1 % 2305843009213693951 < 2305843009213693951 := Int.emod_lt_of_pos _ (by decide)
      dsimp only
      generalize x1 % 2305843009213693951 = x2 at y0 y1 ⊢
      refine ⟨.int x2, rfl, .int x2, rfl, x2, x2, rfl, rfl, .inl ⟨by omega, by omega⟩, _, _, rfl, rfl, (show (0 : Int) < 2305843009213693951 by decide), ?_⟩
      have z0 : 0 ≤ x2 * x2 % 2305843009213693951 := Int.emod_nonneg _ (by decide)
      have z1 : x2 * x2 % 2305843009213693951 < 2305843009213693951 := Int.emod_lt_of_pos _ (by decide)
      dsimp only
      generalize x2 * x2 % 2305843009213693951 = x3 at z0 z1 ⊢
      exact ⟨.int x3, rfl, .int x3, rfl, x3, x3, rfl, rfl, .inl ⟨by omega, by omega⟩, _, _, rfl, rfl, (show (0 : Int) < 4611686018427387847 by decide), _, 16, rfl, rfl, ⟨by decide, by decide⟩, .int m, rfl, _, m, rfl, rfl, (show (0 : Int) < m by omega), fin _⟩
end
end Rw

namespace Rw
open PySem PySem.Spec PyProof.Rows L2
theorem pick_in {P : Int → Prop} {xs : List Int} (h : ∀ x ∈ xs, P x) {k : Int} (k0 : 0 ≤ k) (k1 : k < xs.length) : ∃ j, atI (xs.map V.int) k = some (.int j) ∧ P j := by
  have hk : k.toNat < xs.length := by omega
  refine ⟨xs[k.toNat], atI_of k0 ?_, h _ (List.getElem_mem hk)⟩
  rw [List.getElem?_map, List.getElem?_eq_getElem hk]; rfl
theorem con_up {n : Int} {ps : List Pi} (h : ∀ r : Int, 1 ≤ r → r < n → ∃ p ∈ ps, p.y = r ∧ 0 ≤ p.x ∧ p.x < r) : Con n.toNat (edges ps) := by
  intro S hE
  have key : ∀ k : Nat, ∀ a : Nat, a ≤ k → a < n.toNat → S a = S 0 := by
    intro k
    induction k with
    | zero => intro a h0 _; rw [show a = 0 by omega]
    | succ k ih =>
      intro a ha hn
      by_cases z : a ≤ k
      · exact ih a z hn
      · obtain ⟨p, hp, e1, e2, e3⟩ := h (a : Int) (by omega) (by omega)
        have := hE (p.x.toNat, p.y.toNat) (List.mem_map.mpr ⟨p, hp, rfl⟩)
        have z1 : S p.x.toNat = S p.y.toNat := this
        rw [show a = p.y.toNat by omega, ← z1]
        exact ih _ (by omega) (by omega)
  exact fun a ha => key a a (Nat.le_refl _) ha
section
variable {P : Program} {w : World} {K : PySem.W.Frag} {mg : Str → Option Value} {base : Heap}
abbrev sHs : Stmt := topS 17
abbrev nHs : List Str := ["_law_deck", "_law_most", "_law_top", "_law_rooms", "_law_base", "_law_pipes", "_law_room", "_law_size", "_law_narrow", "_law_on"]
theorem scHs : FnScope nHs ["_law_deck", "_law_most", "_law_top"] (defScope sHs) := ⟨rfl, rfl, rfl, by decide +kernel, rfl, by decide +kernel, by decide +kernel⟩
def spHs : Sp := fun vs H Q _ => ∃ (D G : Addr) (b most top : Int) (av : List Addr), vs = [.ref D, .int most, .int top] ∧ 2 ≤ most ∧ most ≤ 16 ∧ 1 ≤ top ∧ top ≤ 1000000000000 ∧ Dk H D G b ∧ b ≤ 600000000 ∧ Tr av H ∧ D ∈ av ∧ G ∈ av ∧
  ∀ H' (p : Addr) (n : Int) (ps : List Pi), Keep [D, G] H H' → Dk H' D G (b + 200) → 2 ≤ n → n ≤ most → (ps.length : Int) = n - 1 → (∀ p ∈ ps, p.ok n ∧ p.l ≤ top ∧ p.fl = []) → Con n.toNat (edges ps) → Dt av H' (.ref p) (houseD n (ps.map Pi.dat)) → Tr av H' → Q (.ref p) H'
theorem ok_hs (h : Has K mg "_law_house" sHs) (B : Blt mg) (CN : Can P w K mg base "_law_next" ["_law_deck", "_law_many"] 1 spNx) : Can P w K mg base "_law_house" ["_law_deck", "_law_most", "_law_top"] 2 spHs := by
  obtain ⟨f, fd, F, g⟩ := h
  refine ⟨f, fd, F.ok (k := 1) scHs (fun vs H Q E h => ?_) (fun cdv A outer s H vs Q E hr h => ?_), g, F.kp, F.binds fun _ _ _ _ _ _ us hl => match us, hl with | [_, _, _], _ => rfl⟩
  · obtain ⟨D, G, b, most, top, av, rfl, _⟩ := h
    rfl
  · obtain ⟨D, G, b, most, top, av, rfl, m1, m2, t1, t2, dk, hb, tr, mD, mG, q⟩ := h
    refine ⟨_, pss_cons (ps_set (i := 3) scHs.nd rfl (by first | exact Or.inl rfl | exact Or.inr rfl) (pe_op op_add pe_int (pe_can CN (hr.mono (by decide)) (by rfl) (pa_cons (pv 0) (pa_cons (pe_op op_sub (pv 1) pe_int) pa_nil)))))
      (pss_cons (ps_set (i := 4) scHs.nd rfl (by first | exact Or.inl rfl | exact Or.inr rfl) (pe_op op_add pe_int (pe_can CN (hr.mono (by decide)) (by rfl) (pa_cons (pv 0) (pa_cons (pv 2) pa_nil)))))
      (pss_cons (ps_set (i := 5) scHs.nd rfl (by first | exact Or.inl rfl | exact Or.inr rfl) (pe_lst pa_nil))
      (pss_cons (ps_for PassesOwn.never rfl (pi_range2 (by rfl) B.range_ (pa_cons pe_int (pa_cons (pv 3) pa_nil))) (pg_name (i := 6) scHs.nd rfl (by first | exact Or.inl rfl | exact Or.inr rfl))
      (pss_cons (ps_set (i := 7) scHs.nd rfl (by first | exact Or.inl rfl | exact Or.inr rfl) (pe_lst (pa_cons (pv 4) (pa_cons (pv 4) (pa_cons (pe_op op_add pe_int (pe_can CN (hr.mono (by decide)) (by rfl) (pa_cons (pv 0) (pa_cons (pv 2) pa_nil)))) (pa_cons (pe_op op_add pe_int (pe_can CN (hr.mono (by decide)) (by rfl) (pa_cons (pv 0) (pa_cons (pe_callB (call_min2 rfl) (by rfl) B.min_ boot_min (pa_cons (pv 2) (pa_cons pe_int pa_nil))) pa_nil)))) (pa_cons (pe_callB (call_max2 rfl) (by rfl) B.max_ boot_max (pa_cons pe_int (pa_cons (pe_op op_sub (pv 4) pe_int) pa_nil))) pa_nil)))))))
      (pss_cons (ps_set (i := 7) scHs.nd rfl (by first | exact Or.inl rfl | exact Or.inr rfl) (pe_ix ix_list (pv 7) (pe_can CN (hr.mono (by decide)) (by rfl) (pa_cons (pv 0) (pa_cons pe_int pa_nil))) (fun _ _ => rfl)))
      (pss_cons (ps_set (i := 8) scHs.nd rfl (by first | exact Or.inl rfl | exact Or.inr rfl) (pe_tup pa_nil))
      (pss_cons (ps_if (PW.pt (pw_and (pt_cmpR op_gt (pv 7) pe_int (nomark _)) (pw_and (pt_cmpR op_lt (pv 6) pe_int (nomark _)) (pw_and1 (pt_cmpR op_eq (pe_can CN (hr.mono (by decide)) (by rfl) (pa_cons (pv 0) (pa_cons pe_int pa_nil))) pe_int (nomark _)))))) (pss_one (ps_set (i := 8) scHs.nd rfl (by first | exact Or.inl rfl | exact Or.inr rfl) (pe_tup (pa_cons (pe_tup (pa_cons (pe_op op_add pe_int (pe_can CN (hr.mono (by decide)) (by rfl) (pa_cons (pv 0) (pa_cons (pe_op op_sub (pv 7) pe_int) pa_nil)))) (pa_cons (pe_op op_add pe_int (pe_can CN (hr.mono (by decide)) (by rfl) (pa_cons (pv 0) (pa_cons pe_int pa_nil)))) pa_nil))) pa_nil)))) pss_nil)
      (pss_cons (ps_set (i := 9) scHs.nd rfl (by first | exact Or.inl rfl | exact Or.inr rfl) (pe_ix ix_list (pe_lst (pa_cons pe_int (pa_cons (pe_op op_sub (pv 6) pe_int) (pa_cons (pe_can CN (hr.mono (by decide)) (by rfl) (pa_cons (pv 0) (pa_cons (pv 6) pa_nil))) pa_nil)))) (pe_can CN (hr.mono (by decide)) (by rfl) (pa_cons (pv 0) (pa_cons pe_int pa_nil))) (fun _ _ => rfl)))
      (pss_one (ps_expr (pe_bm PySem.F.plainAttrs_list PySem.F.slot_list_insert PySem.F.type_list_insert mt_insert (pv 5) (pa_cons (pe_can CN (hr.mono (by decide)) (by rfl) (pa_cons (pv 0) (pa_cons (pe_op op_add (pe_callB call_len_seq (by rfl) B.len_ PySem.boot_len (pa_cons (pv 5) pa_nil)) pe_int) pa_nil))) (pa_cons (pe_tup (pa_cons (pv 9) (pa_cons (pv 6) (pa_cons (pv 7) (pa_cons (pv 8) (pa_cons (pe_tup pa_nil) pa_nil)))))) pa_nil)))))))))))
      (pss_one (ps_ret (pe_tup (pa_cons (pv 3) (pa_cons (pe_callTy call_tuple_of (by rfl) B.tuple_ boot_tuple (pa_cons (pv 5) pa_nil)) pa_nil)))))))), ?_⟩
    refine ⟨.ref D, rfl, .int most, rfl, most, 1, rfl, rfl, D, G, b, _, rfl, by omega, by omega, dk, by omega, fun H1 k1 kp1 dk1 a1 a2 => ⟨2, k1, rfl, rfl, ?_⟩⟩
    have hn1 : 2 ≤ 2 + k1 := by omega
    have hn2 : 2 + k1 ≤ most := by omega
    dsimp only
    generalize 2 + k1 = n at hn1 hn2
    refine ⟨.ref D, rfl, .int top, rfl, D, G, _, _, rfl, t1, by omega, dk1, by omega, fun H2 k2 kp2 dk2 c1 c2 => ⟨1, k2, rfl, rfl, ?_⟩⟩
    have hb1 : 1 ≤ 1 + k2 := by omega
    have hb2 : 1 + k2 ≤ top := by omega
    dsimp only
    generalize 1 + k2 = bs at hb1 hb2
    refine ⟨show 0 ≤ sizeLine by decide, fun Pp nP => ?_⟩
    have S0 : Sg av D G H H2 (b + 2) := ⟨kp1.trans kp2, dk2.mono (by omega), (tr.kp kp1 dk1.tr).kp kp2 dk2.tr⟩
    have fP := S0.free nP
    have zP := S0.dk.nes nP
    have S1 : Sg (Pp :: av) D G H (upd H2 Pp (.lst [])) (b + 2) := ⟨(S0.new nP).k, (S0.new nP).dk, (S0.new nP).tr.cons upd_same⟩
    have sub : ∀ a ∈ [D, G], a ∈ Pp :: av := two_in (List.mem_cons_of_mem _ mD) (List.mem_cons_of_mem _ mG)
    refine ⟨.int n, rfl, 1, n, rfl, ⟨by decide, by decide, by omega, by omega⟩, for_range (lo := 1) (n := (n - 1).toNat)
      (fun i σ J => ∃ s6 s7 s8 s9, σ = [some (.ref D), some (.int most), some (.int top), some (.int n), some (.int bs), some (.ref Pp), s6, s7, s8, s9] ∧ Sg (Pp :: av) D G H J (b + 2 + 10 * i) ∧
        ∃ (ps : List Pi) (us : List V), J Pp = some (.lst us) ∧ Dts (Pp :: av) J us (ps.map Pi.dat) ∧ ps.length = i ∧ (∀ p ∈ ps, p.ok n ∧ p.l ≤ top ∧ p.fl = []) ∧ ∀ r : Int, 1 ≤ r → r < 1 + i → ∃ p ∈ ps, p.y = r ∧ 0 ≤ p.x ∧ p.x < r)
      ⟨none, none, none, none, rfl, S1.mono (by omega), [], [], upd_same, .nil, rfl, fun _ z => absurd z List.not_mem_nil, fun r h1 h2 => absurd h1 (by omega)⟩ (fun i σ J hi p => ?_) (fun σ J p => ?_)⟩
    · obtain ⟨s6, s7, s8, s9, rfl, SJ, ps, us, eP, dts, lps, okp, hup⟩ := p
      have ul : us.length = i := by rw [dts.len, List.length_map, lps]
      refine ⟨.int bs, rfl, .int bs, rfl, .ref D, rfl, .int top, rfl, D, G, _, _, rfl, t1, by omega, SJ.dk, by omega, fun J1 x1 kq1 dq1 d1 d2 => ⟨1, x1, rfl, rfl, ?_⟩⟩
      refine ⟨.ref D, rfl, .int top, rfl, top, 3, rfl, D, G, _, _, rfl, by split <;> omega, by split <;> omega, dq1, by omega, fun J2 x2 kq2 dq2 e1 e2 => ⟨1, x2, rfl, rfl, .int bs, rfl, bs, 1, rfl, rfl, 1, bs - 1, rfl, show 5 ≤ sizeLine by decide, fun a7 n7 => ?_⟩⟩
      have S2 := ((SJ.go kq1 dq1).go kq2 dq2).new (o := .lst [.int bs, .int bs, .int (1 + x1), .int (1 + x2), .int (if bs - 1 > 1 then bs - 1 else 1)]) n7
      have eP2 := st (o := .lst [.int bs, .int bs, .int (1 + x1), .int (1 + x2), .int (if bs - 1 > 1 then bs - 1 else 1)]) n7 (kq2 Pp _ (kq1 Pp _ eP (not2 zP)) (not2 zP))
      have dts2 := ((dts.keep (kq1.mono sub)).keep (kq2.mono sub)).keep (Keep.new (o := .lst [.int bs, .int bs, .int (1 + x1), .int (1 + x2), .int (if bs - 1 > 1 then bs - 1 else 1)]) n7)
      have e7 : (upd J2 a7 (.lst [.int bs, .int bs, .int (1 + x1), .int (1 + x2), .int (if bs - 1 > 1 then bs - 1 else 1)])) a7 = some (.lst ([bs, bs, 1 + x1, 1 + x2, if bs - 1 > 1 then bs - 1 else 1].map V.int)) := upd_same
      have z7 := ((SJ.go kq1 dq1).go kq2 dq2).dk.nes n7
      generalize upd J2 a7 (.lst [.int bs, .int bs, .int (1 + x1), .int (1 + x2), .int (if bs - 1 > 1 then bs - 1 else 1)]) = J3 at S2 eP2 dts2 e7 ⊢
      refine ⟨.ref a7, rfl, .ref D, rfl, D, G, _, 5, rfl, by decide, by decide, S2.dk, by omega, fun J4 x3 kq3 dq3 g1 g2 => ?_⟩
      obtain ⟨sz, esz, sz1, sz2⟩ := pick_in (P := fun x => 1 ≤ x ∧ x ≤ top) (xs := [bs, bs, 1 + x1, 1 + x2, if bs - 1 > 1 then bs - 1 else 1]) (by
        intro x hx
        simp only [List.mem_cons, List.not_mem_nil, or_false] at hx
        rcases hx with rfl | rfl | rfl | rfl | rfl
        · omega
        · omega
        · omega
        · have : x2 < top := by
            by_cases h : (3 : Int) < top
            · rw [if_pos h] at e2; omega
            · rw [if_neg h] at e2; exact e2
          omega
        · split <;> omega) g1 g2
      have e74 := kq3 a7 _ e7 (not2 z7)
      have S3 := S2.go kq3 dq3
      have eP3 := kq3 Pp _ eP2 (not2 zP)
      have dts3 := dts2.keep (kq3.mono sub)
      refine ⟨a7, _, x3, _, rfl, rfl, SqL.of e74, esz, show 0 ≤ sizeLine by decide, fun T nT => ?_⟩
      have S4 := S3.new (o := .tup []) nT
      have eP4 := st (o := .tup []) nT eP3
      have dts4 := dts3.keep (Keep.new (o := .tup []) nT)
      have dT : Dt (Pp :: av) (upd J4 T (.tup [])) (.ref T) (.tuple (([] : List (Int × Int)).map prD)) := .tup (S3.tr.not nT) upd_same .nil
      have fit : Fit sz [] [] := ⟨sz1, by omega, .nil, fun _ z => absurd z List.not_mem_nil, .nil, fun _ z => absurd z List.not_mem_nil, by simp, by simp⟩
      generalize upd J4 T (.tup []) = J5 at S4 eP4 dts4 dT ⊢
      refine ⟨.int sz, rfl, sz, 1, rfl, rfl, _, rfl, ?_⟩
      refine ite2 (fun c1 => ?A) (fun c1 => ?B)
      case' B =>
        refine iteF ?_
        obtain ⟨Tx, rfl⟩ : ∃ Tx, Tx = T := ⟨_, rfl⟩
      case' A =>
        refine ⟨.int (1 + i), rfl, _, 13, rfl, rfl, _, rfl, ?_⟩
        refine ite2 (fun c2 => ?A2) (fun c2 => ?B2)
      case' B2 =>
        refine iteF ?_
        obtain ⟨Tx, rfl⟩ : ∃ Tx, Tx = T := ⟨_, rfl⟩
      case' A2 => refine ⟨.ref D, rfl, D, G, _, 4, rfl, by decide, by decide, S4.dk, by omega, fun J6 x4 kq4 dq4 h1 h2 => ⟨rfl, _, rfl, ?_⟩⟩
      case' A2 =>
        replace S4 := S4.go kq4 dq4
        replace eP4 := kq4 Pp _ eP4 (not2 zP)
        replace dts4 := dts4.keep (kq4.mono sub)
        replace dT := dT.keep (kq4.mono sub)
        refine ite2 (fun c3 => ?A3) (fun c3 => ?B3)
      case' A3 =>
        have c1' : 1 < sz := of_decide_eq_true c1
        refine ⟨.ref D, rfl, .int sz, rfl, sz, 1, rfl, rfl, D, G, _, _, rfl, by omega, by omega, S4.dk, by omega, fun J7 x5 kq5 dq5 i1 i2 => ⟨1, x5, rfl, rfl, ?_⟩⟩
        refine ⟨.ref D, rfl, D, G, _, 9, rfl, by decide, by decide, dq5, by omega, fun J8 x6 kq6 dq6 j1 j2 => ⟨1, x6, rfl, rfl, show 2 ≤ sizeLine by decide, fun T1 nT1 => ⟨show 1 ≤ sizeLine by decide, fun T2 nT2 => ?_⟩⟩⟩
        replace S4 := (S4.go kq5 dq5).go kq6 dq6
        have nT1a := S4.tr.not nT1
        replace S4 := S4.new (o := .tup [.int (1 + x5), .int (1 + x6)]) nT1
        replace eP4 := st (o := .tup [.int (1 + x5), .int (1 + x6)]) nT1 (kq6 Pp _ (kq5 Pp _ eP4 (not2 zP)) (not2 zP))
        replace dts4 := ((dts4.keep (kq5.mono sub)).keep (kq6.mono sub)).keep (Keep.new (o := .tup [.int (1 + x5), .int (1 + x6)]) nT1)
        have dT1 : Dt (Pp :: av) (upd J8 T1 (.tup [.int (1 + x5), .int (1 + x6)])) (.ref T1) (prD (1 + x5, 1 + x6)) := .tup nT1a upd_same (.cons (.int _) (.cons (.int _) .nil))
        have nT2a := S4.tr.not nT2
        replace S4 := S4.new (o := .tup [.ref T1]) nT2
        replace eP4 := st (o := .tup [.ref T1]) nT2 eP4
        replace dts4 := dts4.keep (Keep.new (o := .tup [.ref T1]) nT2)
        replace dT : Dt (Pp :: av) _ (.ref T2) (.tuple ([(1 + x5, 1 + x6)].map prD)) := .tup nT2a upd_same (.cons (dT1.keep (Keep.new (o := .tup [.ref T1]) nT2)) .nil)
        replace fit : Fit sz [(1 + x5, 1 + x6)] [] := ⟨sz1, by omega, List.pairwise_singleton _ _, fun p hp => by rw [List.mem_singleton.mp hp]; show 1 ≤ 1 + x5 ∧ 1 + x5 ≤ sz - 1 ∧ 1 ≤ 1 + x6 ∧ 1 + x6 ≤ 1000000; omega, .nil, fun _ z => absurd z List.not_mem_nil, by simp, by simp⟩
        obtain ⟨Tx, rfl⟩ : ∃ Tx, Tx = T2 := ⟨_, rfl⟩
      case' B3 => obtain ⟨Tx, rfl⟩ : ∃ Tx, Tx = T := ⟨_, rfl⟩
      all_goals
        replace S4 := S4.mono (b' := b + 2 + 10 * i + 6) (by omega)
        obtain ⟨na, fit, dT⟩ : ∃ na : List (Int × Int), Fit sz na [] ∧ Dt (Pp :: av) _ (.ref Tx) (.tuple (na.map prD)) := ⟨_, fit, dT⟩
        refine ⟨.int (1 + i), rfl, _, 1, rfl, rfl, .ref D, rfl, .int (1 + i), rfl, D, G, _, _, rfl, by omega, by omega, S4.dk, by omega, fun L1 y1 lq1 ld1 m1 m2 => ⟨show 3 ≤ sizeLine by decide, fun a9 n9 => ?_⟩⟩
        replace S4 := S4.go lq1 ld1
        have z9 := S4.dk.nes n9
        replace S4 := S4.new (o := .lst ([0, 1 + (i : Int) - 1, y1].map V.int)) n9
        replace eP4 := st (o := .lst ([0, 1 + (i : Int) - 1, y1].map V.int)) n9 (lq1 Pp _ eP4 (not2 zP))
        replace dts4 := (dts4.keep (lq1.mono sub)).keep (Keep.new (o := .lst ([0, 1 + (i : Int) - 1, y1].map V.int)) n9)
        replace dT := (dT.keep (lq1.mono sub)).keep (Keep.new (o := .lst ([0, 1 + (i : Int) - 1, y1].map V.int)) n9)
        have e9 : (upd L1 a9 (.lst ([0, 1 + (i : Int) - 1, y1].map V.int))) a9 = some (.lst ([0, 1 + (i : Int) - 1, y1].map V.int)) := upd_same
        show (_ : Prop)
        refine ⟨.ref D, rfl, D, G, _, 3, rfl, by decide, by decide, S4.dk, by omega, fun L2 y2 lq2 ld2 o1 o2 => ?_⟩
        obtain ⟨on, eon, on1, on2⟩ := pick_in (P := fun x => 0 ≤ x ∧ x < 1 + (i : Int)) (xs := [0, 1 + (i : Int) - 1, y1]) (by
          intro x hx
          simp only [List.mem_cons, List.not_mem_nil, or_false] at hx
          rcases hx with rfl | rfl | rfl <;> omega) o1 o2
        replace S4 := S4.go lq2 ld2
        replace eP4 := lq2 Pp _ eP4 (not2 zP)
        replace dts4 := dts4.keep (lq2.mono sub)
        replace dT := dT.keep (lq2.mono sub)
        refine ⟨a9, _, y2, _, rfl, rfl, SqL.of (lq2 a9 _ e9 (not2 z9)), eon, ?_⟩
        refine ⟨.ref Pp, rfl, .inl ⟨rfl, _, SqL.of eP4⟩, .ref D, rfl, .ref Pp, rfl, Pp, us, rfl, .inl (SqL.of eP4), _, 1, rfl, rfl, D, G, _, _, rfl, by omega, by omega, S4.dk, by omega, fun L3 y3 lq3 ld3 p1 p2 => ?_⟩
        replace S4 := S4.go lq3 ld3
        replace eP4 := lq3 Pp _ eP4 (not2 zP)
        replace dts4 := dts4.keep (lq3.mono sub)
        replace dT := dT.keep (lq3.mono sub)
        refine ⟨.int on, rfl, .int (1 + i), rfl, .int sz, rfl, .ref Tx, rfl, show 0 ≤ sizeLine by decide, fun T3 nT3 => ⟨show 5 ≤ sizeLine by decide, fun T4 nT4 => ?_⟩⟩
        have nT3a := S4.tr.not nT3
        replace S4 := S4.new (o := .tup []) nT3
        have nT4a := S4.tr.not nT4
        have dT3 : Dt (Pp :: av) _ (.ref T3) (.tuple (([] : List (Int × Int)).map prD)) := .tup nT3a (st (o := .tup [.int on, .int (1 + i), .int sz, .ref Tx, .ref T3]) nT4 upd_same) .nil
        replace S4 := S4.new (o := .tup [.int on, .int (1 + i), .int sz, .ref Tx, .ref T3]) nT4
        replace eP4 := st (o := .tup [.int on, .int (1 + i), .int sz, .ref Tx, .ref T3]) nT4 (st (o := .tup []) nT3 eP4)
        replace dts4 := (dts4.keep (Keep.new (o := .tup []) nT3)).keep (Keep.new (o := .tup [.int on, .int (1 + i), .int sz, .ref Tx, .ref T3]) nT4)
        replace dT := (dT.keep (Keep.new (o := .tup []) nT3)).keep (Keep.new (o := .tup [.int on, .int (1 + i), .int sz, .ref Tx, .ref T3]) nT4)
        refine ⟨Pp, us, y3, .ref T4, rfl, rfl, eP4, by rw [ul]; exact small1000 (by omega), p1, by omega, ?_⟩
        have dT4 : Dt (Pp :: av) _ (.ref T4) (pipeD on (1 + i) sz na []) := .tup nT4a upd_same (.cons (.int _) (.cons (.int _) (.cons (.int _) (.cons dT (.cons dT3 .nil)))))
        refine ⟨_, _, _, _, rfl, ⟨S4.k.upd fP, (S4.dk.other zP.1 zP.2).mono (by omega), S4.tr.upd⟩, ps.take y3.toNat ++ [⟨on, 1 + i, sz, na, []⟩] ++ ps.drop y3.toNat, us.take y3.toNat ++ [.ref T4] ++ us.drop y3.toNat, upd_same, ?_, ?_, ?_, ?_⟩
        · rw [List.map_append, List.map_append, List.map_take, List.map_drop]
          exact (((dts4.take _).app (.cons dT4 .nil)).app (dts4.drop _)).keep (Keep.put List.mem_cons_self)
        · rw [List.length_append, List.length_append, List.length_take, List.length_drop, List.length_singleton]; omega
        · intro z hz
          rcases List.mem_cons.mp ((ins_perm ps y3.toNat _).mem_iff.mp hz) with rfl | hz
          · exact ⟨⟨on1, by show on ≤ n - 1; omega, by show (0 : Int) ≤ 1 + i; omega, by show (1 + i : Int) ≤ n - 1; omega, by show on < 1 + i; omega, fit⟩, sz2, rfl⟩
          · exact okp z hz
        · intro r r1 r2
          by_cases c : r < 1 + i
          · obtain ⟨p, hp, z⟩ := hup r r1 c
            exact ⟨p, (ins_perm ps y3.toNat _).mem_iff.mpr (List.mem_cons_of_mem _ hp), z⟩
          · exact ⟨_, (ins_perm ps y3.toNat _).mem_iff.mpr List.mem_cons_self, by show (1 + i : Int) = r; omega, on1, by show on < r; omega⟩
    · obtain ⟨s6, s7, s8, s9, rfl, SJ, ps, us, eP, dts, lps, okp, hup⟩ := p
      refine ⟨.int n, rfl, .ref Pp, rfl, Pp, us, rfl, .inl ⟨SqL.of eP, fun T nT => ?_⟩⟩
      refine ⟨show 2 ≤ sizeLine by decide, fun p np => ?_⟩
      have tav : Tr av J := fun a m => SJ.tr a (List.mem_cons_of_mem _ m)
      have S2 := (SJ.new (o := .tup us) nT).new (o := .tup [.int n, .ref T]) np
      have dTt : Dt av (upd J T (.tup us)) (.ref T) (.tuple (ps.map Pi.dat)) := .tup (tav.not nT) upd_same ((dts.keep (Keep.new nT)).less fun a m => List.mem_cons_of_mem _ m)
      exact q _ p n ps S2.k (S2.dk.mono (by omega)) hn1 hn2 (by omega) okp (con_up fun r r1 r2 => hup r r1 (by omega)) (.tup ((tav.upd).not np) upd_same (.cons (.int n) (.cons (dTt.keep (Keep.new np)) .nil))) (tav.upd).upd
end
end Rw

namespace Rw
open PySem PySem.Spec PyProof.Rows L2
section
variable {P : Program} {w : World} {K : PySem.W.Frag} {mg : Str → Option Value} {base : Heap}
abbrev sPAt : Stmt := topS 4
abbrev nPAt : List Str := ["plan", "pipe", "at", "one", "other", "length"]
theorem scPAt : FnScope nPAt ["plan", "pipe", "at"] (defScope sPAt) := ⟨rfl, rfl, rfl, by decide +kernel, rfl, by decide +kernel, by decide +kernel⟩
def spPAt (C : Addr) : Sp := fun vs H Q _ => ∃ (a : Addr) (n i t : Int) (ps : List Pi) (d : Int → Int → Int) (av : List Addr), vs = [.ref a, .int i, .int t] ∧ PlanAt C [] H a n ps d ∧ 0 ≤ i ∧ i < ps.length ∧ Tr av H ∧
  ∀ (H' : Hp) (v : V), Keep [] H H' → Tr av H' → Dt av H' v (tupI (nm ps i t)) → Q v H'
theorem ok_pAt {C : Addr} (h : Has K mg "place_at" sPAt) (X : PlanTxt K C) : Can P w K mg base "place_at" ["plan", "pipe", "at"] 1 (spPAt C) := by
  obtain ⟨f, fd, F, g⟩ := h
  refine ⟨f, fd, F.ok (k := 0) scPAt (fun vs H Q E h => ?_) (fun cdv A outer s H vs Q E hr h => ?_), g, F.kp, F.binds fun _ _ _ _ _ _ us hl => match us, hl with | [_, _, _], _ => rfl⟩
  · obtain ⟨a, n, i, t, ps, d, av, rfl, _⟩ := h
    rfl
  · obtain ⟨a, n, i, t, ps, d, av, rfl, pl, h0, h1, tr, k⟩ := h
    refine ⟨_, pss_cons (ps_asg (pe_slice sl_tup (pe_ix ix_tup (pe_fld (pv 0) rfl) (pv 1) (fun _ _ => rfl)) po_none (po_some pe_int)) (pg_tup (by rfl) (pgs_cons (pg_name (i := 3) scPAt.nd rfl (by first | exact Or.inl rfl | exact Or.inr rfl)) (pgs_cons (pg_name (i := 4) scPAt.nd rfl (by first | exact Or.inl rfl | exact Or.inr rfl)) (pgs_cons (pg_name (i := 5) scPAt.nd rfl (by first | exact Or.inl rfl | exact Or.inr rfl)) pgs_nil)))))
      (pss_cons (ps_if (pt_cmpR op_eq (pv 2) pe_int (nomark _)) (pss_one (ps_ret (pe_tup (pa_cons (pv 3) pa_nil)))) pss_nil)
      (pss_cons (ps_if (pt_cmpR op_eq (pv 2) (pv 5) (nomark _)) (pss_one (ps_ret (pe_tup (pa_cons (pv 4) pa_nil)))) pss_nil)
      (pss_one (ps_ret (pe_tup (pa_cons (pv 1) (pa_cons (pv 2) pa_nil))))))), ?_⟩
    obtain ⟨dx, hb, pp, dl, gl, tl, xp, ds, gs, ws, a1', a2, a3, a4, a5, a6, a7, _⟩ := pl
    obtain ⟨p, pa, T1, T2, mp, gp, ga, epa⟩ := pi_at a7 h0 h1
    have epr : p = pr ps i := by
      have z := (pr_mem h0 h1).2
      rw [z] at gp; exact (Option.some.inj gp).symm
    subst epr
    refine ⟨.ref a, rfl, a, C, dx, _, .ref pp, rfl, a2, X.cl, X.nP, pf_pipes .., .int i, rfl, pp, xp, i, .ref pa, rfl, rfl, SqT.of a6, ga, 3, rfl, pa, [.int (pr ps i).x, .int (pr ps i).y, .int (pr ps i).l, .ref T1, .ref T2], rfl, SqT.of epa, show ¬ (HT.sIx 5 0 none = 0 ∧ HT.sIx 5 5 (some 3) = 5) by decide +kernel, fun T3 nT3 => ?_⟩
    rw [show cutV [V.int (pr ps i).x, .int (pr ps i).y, .int (pr ps i).l, .ref T1, .ref T2] none (some 3) = [.int (pr ps i).x, .int (pr ps i).y, .int (pr ps i).l] from cut_to _ 3]
    refine ⟨T3, [.int (pr ps i).x, .int (pr ps i).y, .int (pr ps i).l], rfl, SqT.of upd_same, rfl, _, _, rfl, _, _, rfl, _, [], rfl, rfl, ?_⟩
    have k1 : Keep [] H (upd H T3 (.tup [.int (pr ps i).x, .int (pr ps i).y, .int (pr ps i).l])) := Keep.new nT3
    have tr1 : Tr av (upd H T3 (.tup [.int (pr ps i).x, .int (pr ps i).y, .int (pr ps i).l])) := tr.upd
    generalize upd H T3 (.tup [.int (pr ps i).x, .int (pr ps i).y, .int (pr ps i).l]) = H1 at k1 tr1 ⊢
    refine ⟨.int t, rfl, rfl, _, rfl, ite2 (fun e => ?_) (fun e => ?_)⟩
    · have e0 : t = 0 := V.int.inj (of_decide_eq_true e)
      refine ⟨.int (pr ps i).x, rfl, show 1 ≤ sizeLine by decide, fun z nz => ?_⟩
      refine k _ _ (k1.trans (Keep.new nz)) tr1.upd ?_
      rw [e0, nm_0]
      exact .tup (tr1.not nz) upd_same (.cons (.int _) .nil)
    · have e0 : t ≠ 0 := fun z => e (decide_eq_true (by rw [z]))
      refine ⟨.int t, rfl, .int (pr ps i).l, rfl, rfl, _, rfl, ite2 (fun e1 => ?_) (fun e1 => ?_)⟩
      · have e2 : t = (pr ps i).l := V.int.inj (of_decide_eq_true e1)
        have en : nm ps i t = [(pr ps i).y] := by
          have l0 : (pr ps i).l ≠ 0 := by rw [← e2]; exact e0
          rw [e2, nm_l l0]
        refine ⟨.int (pr ps i).y, rfl, show 1 ≤ sizeLine by decide, fun z nz => ?_⟩
        refine k _ _ (k1.trans (Keep.new nz)) tr1.upd ?_
        rw [en]
        exact .tup (tr1.not nz) upd_same (.cons (.int _) .nil)
      · have e2 : t ≠ (pr ps i).l := fun z => e1 (decide_eq_true (by rw [z]))
        refine ⟨.int i, rfl, .int t, rfl, show 2 ≤ sizeLine by decide, fun z nz => ?_⟩
        refine k _ _ (k1.trans (Keep.new nz)) tr1.upd ?_
        rw [nm_mid e0 e2]
        exact .tup (tr1.not nz) upd_same (.cons (.int _) (.cons (.int _) .nil))
end
end Rw

namespace Rw
open PySem PySem.Spec PyProof.Rows L2
/-! ### sorted lists of places -/
def sortL (nss : List (List Int)) : List (List Int) := nss.mergeSort leI
theorem sortVI_snd (bs : List VI) : (sortVI bs).map (·.2) = sortL (bs.map (·.2)) := List.map_mergeSort (fun _ _ _ _ => rfl)
theorem zip_fst {us : List V} {nss : List (List Int)} (h : us.length = nss.length) : (us.zip nss).map (·.1) = us := List.map_fst_zip (Nat.le_of_eq h)
theorem zip_snd {us : List V} {nss : List (List Int)} (h : us.length = nss.length) : (us.zip nss).map (·.2) = nss := List.map_snd_zip (Nat.le_of_eq h.symm)
theorem zip_enc {us : List V} {nss : List (List Int)} (h : us.length = nss.length) : (us.zip nss).map encVI = nss.map tupI := by
  have e : (us.zip nss).map encVI = ((us.zip nss).map (·.2)).map tupI := by rw [List.map_map]; rfl
  rw [e, zip_snd h]
theorem dts_zip {av : List Addr} {H : Hp} : ∀ {us : List V} {nss : List (List Int)}, Dts av H us (nss.map tupI) → ∀ b ∈ us.zip nss, Dt av H b.1 (encVI b)
  | [], _, _, b, m => by simp at m
  | _ :: _, [], _, b, m => by simp at m
  | u :: us, n :: nss, h, b, m => by
    cases h with
    | cons h1 h2 =>
      rw [List.zip_cons_cons] at m
      rcases List.mem_cons.mp m with e | e
      · rw [e]; exact h1
      · exact dts_zip h2 b e
theorem dts_map {av : List Addr} {H : Hp} : ∀ {bs : List VI}, (∀ b ∈ bs, Dt av H b.1 (encVI b)) → Dts av H (bs.map (·.1)) (bs.map encVI)
  | [], _ => .nil
  | b :: bs, h => .cons (h b List.mem_cons_self) (dts_map fun c m => h c (List.mem_cons_of_mem _ m))
theorem dts_sort {av : List Addr} {H : Hp} {us : List V} {nss : List (List Int)} (h : Dts av H us (nss.map tupI)) : Dts av H ((sortVI (us.zip nss)).map (·.1)) ((sortL nss).map tupI) := by
  have l : us.length = nss.length := by have := h.len; rw [List.length_map] at this; exact this
  have z : Dts av H ((sortVI (us.zip nss)).map (·.1)) ((sortVI (us.zip nss)).map encVI) := dts_map fun b m => dts_zip h b (List.mem_mergeSort.mp m)
  have e : (sortVI (us.zip nss)).map encVI = (sortL nss).map tupI := by
    have e1 : (sortVI (us.zip nss)).map encVI = ((sortVI (us.zip nss)).map (·.2)).map tupI := by rw [List.map_map]; rfl
    rw [e1, sortVI_snd, zip_snd l]
  rw [e] at z
  exact z
def doorNext (ps : List Pi) (row : List Int) : Pl := nm ps (row.getD 0 0) (if row.getD 1 0 = 0 then 1 else row.getD 1 0 - 1)
def besideL (ps : List Pi) : Pl → List Pl
  | [r] => (doorsTo ps r ps.length).map (doorNext ps)
  | [i, a] => [nm ps i (a - 1), nm ps i (a + 1)]
  | _ => []
theorem nm_ne (ps : List Pi) (i t : Int) : nm ps i t ≠ [] := by
  unfold nm
  split
  · intro z; cases z
  · split <;> (intro z; cases z)
section
variable {P : Program} {w : World} {K : PySem.W.Frag} {mg : Str → Option Value} {base : Heap}
abbrev sPB : Stmt := topS 5
abbrev nPB : List Str := ["plan", "place", "doors", "door", "pipe", "at"]
theorem scPB : FnScope nPB ["plan", "place"] (defScope sPB) := ⟨rfl, rfl, rfl, by decide +kernel, rfl, by decide +kernel, by decide +kernel⟩
def spPB (C : Addr) : Sp := fun vs H Q _ => ∃ (a : Addr) (v : V) (n : Int) (ps : List Pi) (d : Int → Int → Int) (p : Pl) (av : List Addr), vs = [.ref a, v] ∧ PlanAt C [] H a n ps d ∧ HouseOk n ps ∧ Dt [] H v (tupI p) ∧ okP n ps p ∧ Tr av H ∧
  ∀ (H' : Hp) (T : Addr) (us : List V), Keep [] H H' → Tr av H' → T ∉ av → H' T = some (.tup us) → Dts av H' us ((sortL (besideL ps p)).map tupI) → Q (.ref T) H'
/-! the end of both ways: a list is sorted, and made a tuple -/
theorem ok_pB {C : Addr} (h : Has K mg "places_beside" sPB) (B : Blt mg) (X : PlanTxt K C) (CA : Can P w K mg base "place_at" ["plan", "pipe", "at"] 1 (spPAt C)) : Can P w K mg base "places_beside" ["plan", "place"] 2 (spPB C) := by
  obtain ⟨f, fd, F, g⟩ := h
  refine ⟨f, fd, F.ok (k := 1) scPB (fun vs H Q E h => ?_) (fun cdv A outer s H vs Q E hr h => ?_), g, F.kp, F.binds fun _ _ _ _ _ _ us hl => match us, hl with | [_, _], _ => rfl⟩
  · obtain ⟨a, v, n, ps, d, p, av, rfl, _⟩ := h
    rfl
  · obtain ⟨a, v, n, ps, d, p, av, rfl, pl, hk, hv, ok, tr, k⟩ := h
    refine ⟨_, pss_cons (ps_if (pt_cmpR op_eq (pe_callB call_len_seq (by rfl) B.len_ PySem.boot_len (pa_cons (pv 1) pa_nil)) pe_int (nomark _)) (pss_cons (ps_set (i := 2) scPB.nd rfl (by first | exact Or.inl rfl | exact Or.inr rfl) (pe_ix ix_list (pe_fld (pv 0) rfl) (pe_ix ix_tup (pv 1) pe_int (fun _ _ => rfl)) (fun _ _ => rfl)))
      (pss_one (ps_ret (pe_callTy call_tuple_of (by rfl) B.tuple_ boot_tuple (pa_cons (pe_callB (cr_sortVI (hu10 hr)) (by rfl) B.sorted_ boot_sorted (pa_cons (pe_lc (own := [("door", 3)]) (g := gName 3) (tt := tYes) rfl scPB.nd (pi_list (pv 2)) (blkOk_by (N := nPB) (sc := defScope sPB) (by decide +kernel)) (fun _ _ _ _ _ => (pg_name (i := 3) scPB.nd rfl (by first | exact Or.inl rfl | exact Or.inr rfl))) (fun _ _ _ _ _ => pts_nil) (fun _ _ _ _ _ => (pe_can CA (hr.mono (by decide)) (by rfl) (pa_cons (pv 0) (pa_cons (pe_ix (ix_tupK (K := K) rfl) (pv 3) pe_int (fun _ _ => rfl)) (pa_cons (pe_ifExp (pt_cmpR op_eq (pe_ix (ix_tupK (K := K) rfl) (pv 3) pe_int (fun _ _ => rfl)) pe_int (nomark _)) pe_int (pe_op op_sub (pe_ix (ix_tupK (K := K) rfl) (pv 3) pe_int (fun _ _ => rfl)) pe_int)) pa_nil)))))) pa_nil)) pa_nil))))) pss_nil)
      (pss_cons (ps_asg (pv 1) (pg_tup (by rfl) (pgs_cons (pg_name (i := 4) scPB.nd rfl (by first | exact Or.inl rfl | exact Or.inr rfl)) (pgs_cons (pg_name (i := 5) scPB.nd rfl (by first | exact Or.inl rfl | exact Or.inr rfl)) pgs_nil))))
      (pss_one (ps_ret (pe_callTy call_tuple_of (by rfl) B.tuple_ boot_tuple (pa_cons (pe_callB (cr_sortVI (hu10 hr)) (by rfl) B.sorted_ boot_sorted (pa_cons (pe_lst (pa_cons (pe_can CA (hr.mono (by decide)) (by rfl) (pa_cons (pv 0) (pa_cons (pv 4) (pa_cons (pe_op op_sub (pv 5) pe_int) pa_nil)))) (pa_cons (pe_can CA (hr.mono (by decide)) (by rfl) (pa_cons (pv 0) (pa_cons (pv 4) (pa_cons (pe_op op_add (pv 5) pe_int) pa_nil)))) pa_nil))) pa_nil)) pa_nil))))), ?_⟩
    obtain ⟨a1, rfl, _, e1⟩ := tupI_at hv
    have fin : ∀ (G : Hp) (W : Addr) (us : List V) (nss : List (List Int)), Keep [] H G → Tr av G → G W = some (.lst us) → Dts av G us (nss.map tupI) → (∀ y ∈ nss, y ≠ []) → nss.length ≤ 200 → nss = besideL ps p →
        rSortVI K [.ref W] G fun x H1 => ∃ q ys, [x] = [V.ref q] ∧ ((SqL K H1 q ys ∧ ∀ l, H1 l = none → Q (.ref l) (upd H1 l (.tup ys))) ∨ (SqT K H1 q ys ∧ Q (.ref q) H1)) := fun G W us nss kG tG eW du hn hl e => by
      have l : us.length = nss.length := by have := du.len; rw [List.length_map] at this; exact this
      refine ⟨W, us.zip nss, rfl, by rw [zip_fst l]; exact SqL.of eW, by rw [zip_fst l, zip_enc l]; exact Dts.dp _ _ du (lay_tups _), fun b m => hn b.2 (List.of_mem_zip m).2, by rw [List.length_zip]; omega, fun q nq => ?_⟩
      refine ⟨q, _, rfl, .inl ⟨SqL.of upd_same, fun T nT => ?_⟩⟩
      refine k _ T _ (kG.trans ((Keep.new nq).trans (Keep.new nT))) ((tG.upd).upd) ((tG.upd).not nT) upd_same ?_
      rw [← e]
      exact (dts_sort du).keep ((Keep.new nq).trans (Keep.new nT))
    rcases ok_cases ok with ⟨r, rfl, r0, r1⟩ | ⟨i, b, rfl, h0, h1, b0, b1⟩
    · refine ⟨.ref a1, rfl, a1, _, rfl, .inr (SqT.of e1), rfl, true, rfl, iteT ?_⟩
      obtain ⟨dx, hb, pp, dl, gl, tl, xp, ds, gs, ws, c1, c2, c3, c4, c5, c6, c7, c8, c9, d1, d2, d3, _⟩ := id pl
      obtain ⟨da, gda⟩ : ∃ da, ds[r.toNat]? = some da := ⟨_, List.getElem?_eq_getElem (by omega)⟩
      obtain ⟨ts, eda, dts, lts⟩ := d3 r.toNat da gda
      have er : ((r.toNat : Nat) : Int) = r := by omega
      have dts' : Dts [] H ts ((doorsTo ps r ps.length).map tupI) := by
        have z : Dts [] H ts ((doorsTo ps ((r.toNat : Nat) : Int) ps.length).map tupI) := dts
        rw [er] at z; exact z
      have tl2 : ts.length = (doorsTo ps r ps.length).length := by rw [dts'.len, List.length_map]
      refine ⟨.ref a, rfl, a, C, dx, _, .ref dl, rfl, c2, X.cl, X.nD, pf_doors .., .ref a1, rfl, a1, _, 0, .int r, rfl, rfl, SqT.of e1, atI_nat (j := 0) rfl, dl, _, r, .ref da, rfl, rfl, SqL.of c9, atI_of r0 (by rw [List.getElem?_map, gda]; rfl), ?_⟩
      refine ⟨.ref da, rfl, da, rfl, ⟨_, SqL.of eda⟩, fun W nW => ?_⟩
      refine lc_list (K := K) (a := da) (xs := ts) (fun j J => Keep [] H J ∧ Tr (W :: av) J ∧ ∃ us : List V, J W = some (.lst us) ∧ us.length = j ∧ Dts (W :: av) J us ((((doorsTo ps r ps.length).take j).map (doorNext ps)).map tupI))
        ⟨Keep.new nW, (tr.upd).cons upd_same, [], upd_same, rfl, .nil⟩ (fun j J _ p => SqL.of (p.1 da _ eda List.not_mem_nil)) (fun j x J hx p => ?_) (fun J p => ?_)
      · obtain ⟨kJ, tJ, us, eW, lu, du⟩ := p
        have jl : j < ts.length := (List.getElem?_eq_some_iff.mp hx).1
        obtain ⟨dd, gd, dx2⟩ := (dts'.keep kJ).getv j hx
        rw [List.getElem?_map] at gd
        obtain ⟨row, grow, rfl⟩ := Option.map_eq_some_iff.mp gd
        obtain ⟨i, il, hrow⟩ := mem_doors.mp (List.mem_of_getElem? grow)
        have pl1 := (hk.at il).1.fit.l1
        obtain ⟨at', z, far, rfl⟩ : ∃ at' z far : Int, row = [(i : Int), at', z, far] := by
          rcases hrow with ⟨_, h⟩ | ⟨_, h⟩ <;> exact ⟨_, _, _, h⟩
        obtain ⟨Td, rfl, _, eTd⟩ := tupI_at dx2
        have tk : (doorsTo ps r ps.length).take (j + 1) = (doorsTo ps r ps.length).take j ++ [[(i : Int), at', z, far]] := by rw [List.take_add_one, grow]; rfl
        have step : ∀ (t : Int), t = (if at' = 0 then 1 else at' - 1) → spPAt C ([.ref a, .int (i : Int), .int t] ++ []) J (fun y H4 => ∃ acc, H4 W = some (.lst acc) ∧ acc.length < sizeLine ∧ (Keep [] H (upd H4 W (.lst (acc ++ [y]))) ∧ Tr (W :: av) (upd H4 W (.lst (acc ++ [y]))) ∧ ∃ us : List V, (upd H4 W (.lst (acc ++ [y]))) W = some (.lst us) ∧ us.length = j + 1 ∧ Dts (W :: av) (upd H4 W (.lst (acc ++ [y]))) us ((((doorsTo ps r ps.length).take (j + 1)).map (doorNext ps)).map tupI))) E0 := fun t et => by
          refine ⟨a, n, (i : Int), t, ps, d, W :: av, rfl, pl.keep kJ, by omega, by omega, tJ, fun J2 v k2 tr2 dv => ?_⟩
          refine ⟨us, k2 W _ eW List.not_mem_nil, Nat.lt_of_lt_of_le (by omega : us.length < 1000) (small1000 (by omega)), (kJ.trans k2).upd nW, tr2.upd, us ++ [v], upd_same, by rw [List.length_append, lu]; rfl, ?_⟩
          rw [tk, List.map_append, List.map_append]
          have en : doorNext ps [(i : Int), at', z, far] = nm ps (i : Int) t := by rw [et]; rfl
          refine ((du.keep k2.of).app ?_).keep (Keep.put List.mem_cons_self)
          show Dts _ _ [v] [tupI (doorNext ps [(i : Int), at', z, far])]
          rw [en]
          exact .cons dv .nil
        refine ⟨rfl, .ref a, rfl, .ref Td, rfl, Td, _, 0, .int (i : Int), rfl, rfl, SqT.of eTd, atI_nat (j := 0) rfl, .ref Td, rfl, Td, _, 1, .int at', rfl, rfl, SqT.of eTd, atI_nat (j := 1) rfl, rfl, _, rfl, ite2 (fun e => ?_) (fun e => ?_)⟩
        · have e0 : at' = 0 := V.int.inj (of_decide_eq_true e)
          exact step 1 (by rw [if_pos e0])
        · have e0 : ¬ at' = 0 := fun z => e (decide_eq_true (by rw [z]))
          exact ⟨.ref Td, rfl, Td, _, 1, .int at', rfl, rfl, SqT.of eTd, atI_nat (j := 1) rfl, at', 1, rfl, rfl, step (at' - 1) (by rw [if_neg e0])⟩
      · obtain ⟨kJ, tJ, us, eW, lu, du⟩ := p
        rw [tl2, List.take_length] at du
        exact fin J W us (besideL ps [r]) kJ (fun z m => tJ z (List.mem_cons_of_mem _ m)) eW (du.less fun z m => List.mem_cons_of_mem _ m) (fun y hy => by
          obtain ⟨row, _, rfl⟩ := List.mem_map.mp (show y ∈ (doorsTo ps r ps.length).map (doorNext ps) from hy)
          exact nm_ne _ _ _) (by show ((doorsTo ps r ps.length).map (doorNext ps)).length ≤ 200; rw [List.length_map]; omega) rfl
    · refine ⟨.ref a1, rfl, a1, _, rfl, .inr (SqT.of e1), rfl, false, rfl, iteF ?_⟩
      refine ⟨.ref a1, rfl, a1, _, rfl, SqT.of e1, rfl, _, _, rfl, _, [], rfl, rfl, ?_⟩
      refine ⟨.ref a, rfl, .int i, rfl, .int b, rfl, b, 1, rfl, rfl, a, n, i, b - 1, ps, d, av, rfl, pl, h0, h1, tr, fun H1 v1 k1 t1 dv1 => ?_⟩
      refine ⟨.ref a, rfl, .int i, rfl, .int b, rfl, b, 1, rfl, rfl, a, n, i, b + 1, ps, d, av, rfl, pl.keep k1, h0, h1, t1, fun H2 v2 k2 t2 dv2 => ?_⟩
      refine ⟨show 2 ≤ sizeLine by decide, fun W nW => ?_⟩
      exact fin _ W [v1, v2] [nm ps i (b - 1), nm ps i (b + 1)] (k1.trans (k2.trans (Keep.new nW))) t2.upd upd_same (.cons ((dv1.keep k2.of).keep (Keep.new nW)) (.cons (dv2.keep (Keep.new nW)) .nil)) (fun y hy => by
        rcases List.mem_cons.mp hy with rfl | hy
        · exact nm_ne _ _ _
        · rw [List.mem_singleton.mp hy]; exact nm_ne _ _ _) (by show 2 ≤ 200; decide) rfl
end
end Rw

namespace Rw
open PySem PySem.Spec PyProof.Rows L2
end Rw

namespace Rw
/-! ### which places are next to one: two lists, one arrangement -/
section
variable {n : Int} {ps : List Pi} {d : Int → Int → Int} (T : Tm n ps d)
include T
/-! besideL -/
theorem mem_beside {p q : Pl} (ok : okP n ps p) : q ∈ besideL ps p ↔ Adj ps p q := by
  rcases ok_cases ok with ⟨r, rfl, r0, r1⟩ | ⟨i, b, rfl, h0, h1, b0, b1⟩
  · show q ∈ (doorsTo ps r ps.length).map (doorNext ps) ↔ _
    constructor
    · intro m
      obtain ⟨row, mr, rfl⟩ := List.mem_map.mp m
      obtain ⟨j, jl, h⟩ := mem_doors.mp mr
      have l1 := (T.at (i := (j : Int)) (by omega) (by omega)).2.2.2.2
      rcases h with ⟨e, rfl⟩ | ⟨e, rfl⟩
      · exact ⟨(j : Int), 0, by omega, by omega, by omega, by omega, .inl ⟨by rw [nm_0, e], rfl⟩⟩
      · refine ⟨(j : Int), (pr ps (j : Int)).l - 1, by omega, by omega, by omega, by omega, .inr ⟨?_, by rw [show (pr ps (j : Int)).l - 1 + 1 = (pr ps (j : Int)).l by omega, nm_l (by omega), e]⟩⟩
        show nm ps (j : Int) (if (pr ps (j : Int)).l = 0 then 1 else (pr ps (j : Int)).l - 1) = _
        rw [if_neg (by omega)]
    · rintro ⟨j, a, j0, j1, a0, a1, h⟩
      have ej : ((j.toNat : Nat) : Int) = j := by omega
      rcases h with ⟨e1, rfl⟩ | ⟨rfl, e1⟩
      · rcases nm_one e1.symm with ⟨z, ex⟩ | ⟨z, _⟩
        · subst z
          exact List.mem_map.mpr ⟨[j, 0, (pr ps j).y, (pr ps j).l], mem_doors.mpr ⟨j.toNat, by omega, .inl (by rw [ej]; exact ⟨ex, rfl⟩)⟩, rfl⟩
        · omega
      · rcases nm_one e1.symm with ⟨z, _⟩ | ⟨z, ey⟩
        · omega
        · refine List.mem_map.mpr ⟨[j, (pr ps j).l, (pr ps j).x, 0], mem_doors.mpr ⟨j.toNat, by omega, .inr (by rw [ej]; exact ⟨ey, rfl⟩)⟩, ?_⟩
          show nm ps j (if (pr ps j).l = 0 then 1 else (pr ps j).l - 1) = nm ps j a
          rw [if_neg (by omega), show (pr ps j).l - 1 = a by omega]
  · show q ∈ [nm ps i (b - 1), nm ps i (b + 1)] ↔ _
    have pe : nm ps i b = [i, b] := nm_mid (by omega) (by omega)
    constructor
    · intro m
      rcases List.mem_cons.mp m with rfl | m
      · exact ⟨i, b - 1, h0, h1, by omega, by omega, .inr ⟨rfl, by rw [show b - 1 + 1 = b by omega, pe]⟩⟩
      · rw [List.mem_singleton.mp m]
        exact ⟨i, b, h0, h1, by omega, by omega, .inl ⟨pe.symm, rfl⟩⟩
    · intro h
      rcases near_mid T b0 b1 h with rfl | rfl
      · exact List.mem_cons_self
      · exact List.mem_cons_of_mem _ List.mem_cons_self
theorem doors_nodup (r : Int) (r0 : 0 ≤ r) (r1 : r < n) : ∀ m : Nat, m ≤ ps.length → ((doorsTo ps r m).map (doorNext ps)).Nodup
  | 0, _ => by unfold doorsTo; simp
  | m + 1, hm => by
    have ih := doors_nodup r r0 r1 m (by omega)
    obtain ⟨x0, x1, y0, y1, l1⟩ := T.at (i := (m : Int)) (by omega) (by omega)
    have o := (T.own (i := (m : Int)) (by omega) (by omega)).2.2
    rw [doorsTo_succ, List.map_append]
    have old : ∀ q ∈ (doorsTo ps r m).map (doorNext ps), AdjTo ps (m : Int) 0 [r] q := fun q hq => by
      obtain ⟨row, mr, rfl⟩ := List.mem_map.mp hq
      obtain ⟨j, jl, h⟩ := mem_doors.mp mr
      have l2 := (T.at (i := (j : Int)) (by omega) (by omega)).2.2.2.2
      rcases h with ⟨e, rfl⟩ | ⟨e, rfl⟩
      · exact ⟨(j : Int), 0, by omega, .inl ⟨by omega, by omega, by omega⟩, .inl ⟨by rw [nm_0, e], rfl⟩⟩
      · refine ⟨(j : Int), (pr ps (j : Int)).l - 1, by omega, .inl ⟨by omega, by omega, by omega⟩, .inr ⟨?_, by rw [show (pr ps (j : Int)).l - 1 + 1 = (pr ps (j : Int)).l by omega, nm_l (by omega), e]⟩⟩
        show nm ps (j : Int) (if (pr ps (j : Int)).l = 0 then 1 else (pr ps (j : Int)).l - 1) = _
        rw [if_neg (by omega)]
    have far : ∀ (a : Int) (q : Pl), 0 ≤ a → a < (pr ps (m : Int)).l → (([r] = nm ps (m : Int) a ∧ q = nm ps (m : Int) (a + 1)) ∨ (q = nm ps (m : Int) a ∧ [r] = nm ps (m : Int) (a + 1))) → q ∉ (doorsTo ps r m).map (doorNext ps) := fun a q a0 a1 hq mem => by
      obtain ⟨j, b, j0, h | h, rr⟩ := old q mem
      · have z := step_one T (i := (m : Int)) (a := a) (j := j) (b := b) (by omega) (by omega) a0 a1 j0 (by omega) h.2.1 h.2.2 (by
          rcases hq with ⟨u1, u2⟩ | ⟨u1, u2⟩ <;> rcases rr with ⟨v1, v2⟩ | ⟨v1, v2⟩
          · exact .inl ⟨u1.symm.trans v1, u2.symm.trans v2⟩
          · exact .inr ⟨u1.symm.trans v2, u2.symm.trans v1⟩
          · exact .inr ⟨u1.symm.trans v2, u2.symm.trans v1⟩
          · exact .inl ⟨u1.symm.trans v1, u2.symm.trans v2⟩)
        omega
      · omega
    unfold doorRow
    by_cases ex : (pr ps (m : Int)).x = r
    · have ey : ¬ (pr ps (m : Int)).y = r := fun z => o (by rw [ex, z])
      rw [if_pos ex, if_neg ey, List.append_nil]
      refine List.nodup_append.mpr ⟨ih, by simp, fun a ha b hb z => ?_⟩
      rw [List.mem_singleton.mp hb] at z
      exact far 0 (doorNext ps [(m : Int), 0, (pr ps (m : Int)).y, (pr ps (m : Int)).l]) (by omega) (by omega) (.inl ⟨by rw [nm_0, ex], rfl⟩) (z ▸ ha)
    · by_cases ey : (pr ps (m : Int)).y = r
      · rw [if_neg ex, if_pos ey, List.nil_append]
        refine List.nodup_append.mpr ⟨ih, by simp, fun a ha b hb z => ?_⟩
        rw [List.mem_singleton.mp hb] at z
        have en : doorNext ps [(m : Int), (pr ps (m : Int)).l, (pr ps (m : Int)).x, 0] = nm ps (m : Int) ((pr ps (m : Int)).l - 1) := by
          show nm ps (m : Int) (if (pr ps (m : Int)).l = 0 then 1 else (pr ps (m : Int)).l - 1) = _
          rw [if_neg (by omega)]
        exact far ((pr ps (m : Int)).l - 1) _ (by omega) (by omega) (.inr ⟨en, by rw [show (pr ps (m : Int)).l - 1 + 1 = (pr ps (m : Int)).l by omega, nm_l (by omega), ey]⟩) (z ▸ ha)
      · rw [if_neg ex, if_neg ey]
        simp only [List.append_nil, List.map_nil]
        exact ih
theorem beside_nodup {p : Pl} (ok : okP n ps p) : (besideL ps p).Nodup := by
  rcases ok_cases ok with ⟨r, rfl, r0, r1⟩ | ⟨i, b, rfl, h0, h1, b0, b1⟩
  · exact doors_nodup T r r0 r1 ps.length (Nat.le_refl _)
  · show [nm ps i (b - 1), nm ps i (b + 1)].Nodup
    refine List.nodup_cons.mpr ⟨fun m => ?_, by simp⟩
    have := nm_inj T h0 h1 (by omega) (by omega) (by omega) (by omega) (List.mem_singleton.mp m)
    omega
end
theorem perm_of {α : Type} [DecidableEq α] {l m : List α} (hl : l.Nodup) (hm : m.Nodup) (h : ∀ x, x ∈ l ↔ x ∈ m) : l.Perm m := by
  rw [List.perm_iff_count]
  intro a
  rw [hl.count, hm.count]
  by_cases e : a ∈ l
  · rw [if_pos e, if_pos ((h a).mp e)]
  · rw [if_neg e, if_neg (fun z => e ((h a).mpr z))]
theorem leI_trans (a b c : List Int) (h1 : leI a b = true) (h2 : leI b c = true) : leI a c = true := by
  unfold leI at *
  simp only [Bool.not_eq_true', decide_eq_false_iff_not] at *
  exact List.le_trans (l₁ := a) (l₂ := b) (l₃ := c) h1 h2
theorem leI_total (a b : List Int) : (leI a b || leI b a) = true := by
  unfold leI
  by_cases h : b < a
  · have : ¬ a < b := List.lt_asymm h
    simp [h, this]
  · simp [h]
theorem leI_anti (a b : List Int) (h1 : leI a b = true) (h2 : leI b a = true) : a = b := by
  unfold leI at *
  simp only [Bool.not_eq_true', decide_eq_false_iff_not] at *
  exact List.le_antisymm h1 h2
theorem sortL_perm {l m : List (List Int)} (h : l.Perm m) : sortL l = sortL m := by
  have p : (sortL l).Perm (sortL m) := (List.mergeSort_perm l leI).trans (h.trans (List.mergeSort_perm m leI).symm)
  exact List.Perm.eq_of_pairwise (fun a b _ _ h1 h2 => leI_anti a b h1 h2) (List.pairwise_mergeSort leI_trans leI_total l) (List.pairwise_mergeSort leI_trans leI_total m) p
end Rw

namespace Rw
open PySem PySem.Spec PyProof.Rows L2
/-! ### the name of a place along a pipe -/
end Rw

namespace Rw
open PySem PySem.Spec PyProof.Rows L2
/-! ### the places next to each place, in a dict -/
def keyOf (p : Pl) : List Key := p.map Sum.inl
theorem keyOf_kV (p : Pl) : (keyOf p).map kV = p.map V.int := by unfold keyOf; rw [List.map_map]; rfl
theorem keyOf_inj {p q : Pl} (h : keyOf p = keyOf q) : p = q := by
  unfold keyOf at h
  have f : ∀ l : Pl, (l.map (Sum.inl : Int → Key)).map (fun k => match k with | .inl i => i | .inr _ => 0) = l := fun l => by
    rw [List.map_map]; exact (List.map_congr_left fun _ _ => rfl).trans (List.map_id l)
  rw [← f p, ← f q, h]
def Bes (av : List Addr) (G : Hp) (kvs : List (List Key × V)) (R : Pl → Pl → Prop) (n : Int) (ps : List Pi) (m : Nat) : Prop :=
  kvs.length ≤ m ∧ (∀ kv ∈ kvs, ∃ p, okP n ps p ∧ kv.1 = keyOf p) ∧ ∀ p : Pl, (valV kvs (keyOf p) = none ∧ ∀ q, ¬ R p q) ∨
    ∃ (L : Addr) (us : List V) (qs : List Pl), valV kvs (keyOf p) = some (.ref L) ∧ L ∉ av ∧ G L = some (.lst us) ∧ Dts av G us (qs.map tupI) ∧ us.length ≤ m ∧ qs.Nodup ∧ ∀ q, q ∈ qs ↔ R p q
theorem Bes.keep {av : List Addr} {G G' : Hp} {kvs : List (List Key × V)} {R : Pl → Pl → Prop} {n : Int} {ps : List Pi} {m : Nat} (h : Bes av G kvs R n ps m) (k : Keep av G G') : Bes av G' kvs R n ps m := by
  refine ⟨h.1, h.2.1, fun p => ?_⟩
  rcases h.2.2 p with z | ⟨L, us, qs, h1, h2, h3, h4, h5⟩
  · exact .inl z
  · exact .inr ⟨L, us, qs, h1, h2, k L _ h3 h2, h4.keep k, h5⟩
theorem Bes.put {av : List Addr} {G : Hp} {kvs : List (List Key × V)} {R R' : Pl → Pl → Prop} {n : Int} {ps : List Pi} {m : Nat} (h : Bes av G kvs R n ps m) {p : Pl} {L : Addr} {us : List V} {qs : List Pl} (ok : okP n ps p) (nL : L ∉ av) (eL : G L = some (.lst us)) (du : Dts av G us (qs.map tupI)) (lu : us.length ≤ m + 1) (ndq : qs.Nodup)
    (hq : ∀ q, q ∈ qs ↔ R' p q) (ho : ∀ p', p' ≠ p → ∀ q, R' p' q ↔ R p' q) : Bes av G (putK kvs (keyOf p) (.ref L)) R' n ps (m + 1) := by
  refine ⟨Nat.le_trans (DSub.putK_len _ _ _) (Nat.add_le_add_right h.1 1), fun kv hkv => ?_, fun p' => ?_⟩
  · unfold putK at hkv
    split at hkv
    · obtain ⟨kv', m', e⟩ := List.mem_map.mp hkv
      obtain ⟨r, o, er⟩ := h.2.1 kv' m'
      refine ⟨r, o, ?_⟩
      rw [← e]
      split <;> exact er
    · rcases List.mem_append.mp hkv with z | z
      · exact h.2.1 kv z
      · rw [List.mem_singleton.mp z]; exact ⟨p, ok, rfl⟩
  · rw [valV_put]
    by_cases e : p' = p
    · subst e
      rw [if_pos rfl]
      exact .inr ⟨L, us, qs, rfl, nL, eL, du, lu, ndq, hq⟩
    · rw [if_neg (fun z => e (keyOf_inj z))]
      rcases h.2.2 p' with z | ⟨L', us', qs', h1, h2, h3, h4, h5, h7, h6⟩
      · exact .inl ⟨z.1, fun q w => z.2 q ((ho p' e q).mp w)⟩
      · exact .inr ⟨L', us', qs', h1, h2, h3, h4, by omega, h7, fun q => (h6 q).trans (ho p' e q).symm⟩
/-! what get tells, with a new empty list as the other answer -/
theorem Bes.get {av : List Addr} {G : Hp} {kvs : List (List Key × V)} {R : Pl → Pl → Prop} {n : Int} {ps : List Pi} {m : Nat} (h : Bes av G kvs R n ps m) (tr : Tr av G) {E : Addr} (nE : G E = none) (p : Pl) :
    ∃ (L : Addr) (us : List V) (qs : List Pl), (valV kvs (keyOf p)).getD (.ref E) = .ref L ∧ (upd G E (.lst [])) L = some (.lst us) ∧ Dts av (upd G E (.lst [])) us (qs.map tupI) ∧ us.length ≤ m ∧ qs.Nodup ∧ ∀ q, q ∈ qs ↔ R p q := by
  rcases h.2.2 p with ⟨z1, z2⟩ | ⟨L, us, qs, h1, h2, h3, h4, h5, h6⟩
  · exact ⟨E, [], [], by rw [z1]; rfl, upd_same, .nil, Nat.zero_le _, List.nodup_nil, fun q => ⟨fun w => absurd w List.not_mem_nil, fun w => absurd w (z2 q)⟩⟩
  · exact ⟨L, us, qs, by rw [h1]; rfl, by rw [upd_ne (ne_of_none h3 nE)]; exact h3, h4.keep (Keep.new nE), h5, h6⟩
theorem bes_put2 {H J : Hp} {Fd E L1 N : Addr} {av : List Addr} {kvs : List (List Key × V)} {R : Pl → Pl → Prop} {n : Int} {ps : List Pi} {m : Nat} {p q : Pl} {us0 : List V} {qs0 : List Pl} {vq : V} (nF : H Fd = none) (kH : Keep [] H J) (tJ : Tr (Fd :: av) J) (eF : J Fd = some (.dT kvs)) (bF : Bes (Fd :: av) J kvs R n ps m)
    (rF : ∀ r : Int, 0 ≤ r → r < n → valV kvs (keyOf [r]) ≠ none) (ok : okP n ps p) (dq : Dt (Fd :: av) J vq (tupI q)) (nE : J E = none) (nL : (upd J E (.lst [])) L1 = none) (nN : (upd (upd J E (.lst [])) L1 (.lst [vq])) N = none) (d0 : Dts (Fd :: av) (upd J E (.lst [])) us0 (qs0.map tupI)) (l0 : us0.length ≤ m) (h0 : qs0.Nodup ∧ ∀ z, z ∈ qs0 ↔ R p z) (nR : ¬ R p q) :
    ∀ G4, G4 = upd (upd (upd (upd J E (.lst [])) L1 (.lst [vq])) N (.lst (us0 ++ [vq]))) Fd (.dT (putK kvs (keyOf p) (.ref N))) → Keep [Fd] J G4 ∧ Keep [] H G4 ∧ Tr (Fd :: av) G4 ∧ G4 Fd = some (.dT (putK kvs (keyOf p) (.ref N))) ∧ Bes (Fd :: av) G4 (putK kvs (keyOf p) (.ref N)) (fun a b => R a b ∨ (a = p ∧ b = q)) n ps (m + 1) ∧ ∀ r : Int, 0 ≤ r → r < n → valV (putK kvs (keyOf p) (.ref N)) (keyOf [r]) ≠ none := by
  rintro _ rfl
  have kE : Keep [] J (upd J E (.lst [])) := Keep.new nE
  have kL : Keep [] (upd J E (.lst [])) (upd (upd J E (.lst [])) L1 (.lst [vq])) := Keep.new nL
  have kN : Keep [] (upd (upd J E (.lst [])) L1 (.lst [vq])) (upd (upd (upd J E (.lst [])) L1 (.lst [vq])) N (.lst (us0 ++ [vq]))) := Keep.new nN
  have k3 := kE.trans (kL.trans kN)
  have t2 : Tr (Fd :: av) (upd (upd J E (.lst [])) L1 (.lst [vq])) := (tJ.upd).upd
  refine ⟨k3.of.trans (Keep.put List.mem_cons_self), (kH.trans k3).upd nF, (t2.upd).upd, upd_same, ?_, fun r r0 r1 => ?_⟩
  · refine ((bF.keep k3.of).put (R' := fun a b => R a b ∨ (a = p ∧ b = q)) (p := p) (L := N) (us := us0 ++ [vq]) (qs := qs0 ++ [q]) ok (t2.not nN) upd_same ?_ (by rw [List.length_append]; exact Nat.add_le_add_right l0 1) (List.nodup_append.mpr ⟨h0.1, by simp, fun a ha b hb z => nR ((h0.2 q).mp (by rw [← List.mem_singleton.mp hb, ← z]; exact ha))⟩) (fun z => ?_) (fun p' ne z => ?_)).keep (Keep.put List.mem_cons_self)
    · rw [List.map_append]
      exact ((d0.keep (kL.trans kN).of).app (.cons (dq.keep k3.of) .nil))
    · rw [List.mem_append, List.mem_singleton, h0.2 z]
      exact ⟨fun w => w.elim .inl (fun e => .inr ⟨rfl, e⟩), fun w => w.elim .inl (fun e => .inr e.2)⟩
    · exact ⟨fun w => w.elim id (fun e => absurd e.1 ne), .inl⟩
  · rw [valV_put]
    split
    · intro z; cases z
    · exact rF r r0 r1
end Rw

namespace Rw
open PySem PySem.Spec PyProof.Rows L2
/-! ### going through a house from a place -/
theorem nodup_le {α : Type} [DecidableEq α] : ∀ (F L : List α), F.Nodup → (∀ x ∈ F, x ∈ L) → F.length ≤ L.length
  | [], _, _, _ => Nat.zero_le _
  | x :: F, L, nd, h => by
    have nd' := List.nodup_cons.mp nd
    have m := h x List.mem_cons_self
    have e := List.length_erase_of_mem m
    have p := List.length_pos_of_mem m
    have := nodup_le F (L.erase x) nd'.2 (fun y hy => (List.mem_erase_of_ne (fun z : y = x => nd'.1 (by rw [← z]; exact hy))).mpr (h y (List.mem_cons_of_mem _ hy)))
    rw [List.length_cons]; omega
theorem Bes.less {av av' : List Addr} {G : Hp} {kvs : List (List Key × V)} {R : Pl → Pl → Prop} {n : Int} {ps : List Pi} {m : Nat} (h : Bes av G kvs R n ps m) (s : ∀ a ∈ av', a ∈ av) : Bes av' G kvs R n ps m := by
  refine ⟨h.1, h.2.1, fun p => ?_⟩
  rcases h.2.2 p with z | ⟨L, us, qs, h1, h2, h3, h4, h5⟩
  · exact .inl z
  · exact .inr ⟨L, us, qs, h1, fun m => h2 (s _ m), h3, h4.less s, h5⟩
theorem Bes.more {av : List Addr} {G : Hp} {kvs : List (List Key × V)} {R : Pl → Pl → Prop} {n : Int} {ps : List Pi} {m : Nat} {p : Addr} (h : Bes av G kvs R n ps m) (np : G p = none) : Bes (p :: av) G kvs R n ps m := by
  refine ⟨h.1, h.2.1, fun q => ?_⟩
  rcases h.2.2 q with z | ⟨L, us, qs, h1, h2, h3, h4, h5⟩
  · exact .inl z
  · exact .inr ⟨L, us, qs, h1, fun m => (List.mem_cons.mp m).elim (ne_of_none h3 np) h2, h3, h4.more np, h5⟩
theorem Rd.keep {av : List Addr} {H H' : Hp} {a : Addr} {o : HO} (h : Rd H a o) (na : a ∉ av) (k : Keep av H H') : Rd H' a o := by
  rcases h with e | ⟨u, e⟩
  · exact .inl (k a _ e na)
  · exact .inr ⟨u, k a _ e na⟩
theorem bes_key {av : List Addr} {G : Hp} {kvs : List (List Key × V)} {n : Int} {ps : List Pi} {d : Int → Int → Int} {m : Nat} (T : Tm n ps d) (h : Bes av G kvs (Adj ps) n ps m) (rk : ∀ r, 0 ≤ r → r < n → valV kvs (keyOf [r]) ≠ none) {p : Pl} (ok : okP n ps p) : valV kvs (keyOf p) ≠ none := by
  rcases ok_cases ok with ⟨r, rfl, r0, r1⟩ | ⟨i, a, rfl, h0, h1, a0, a1⟩
  · exact rk r r0 r1
  · intro z
    rcases h.2.2 [i, a] with ⟨_, z2⟩ | ⟨L, _, _, e, _⟩
    · exact z2 (nm ps i (a + 1)) ⟨i, a, h0, h1, by omega, by omega, .inl ⟨(nm_mid (by omega) (by omega)).symm, rfl⟩⟩
    · rw [z] at e; cases e
/-! what was found, in its order; the first t were gone through -/
structure SP (n : Int) (ps : List Pi) (d : Int → Int → Int) (s : Pl) (F : List Pl) (t : Nat) (qs : List Pl) : Prop where
  nd : F.Nodup
  ok : ∀ p ∈ F, okP n ps p
  src : s ∈ F
  par : Pard s (Dp ps d s) (fun p q w => Adj ps p q ∧ w = 1) F
  le : t ≤ F.length
  cl : ∀ (j : Nat) (u : Pl), j < t → F[j]? = some u → ∀ v, Adj ps u v → v ∈ F
  now : ∀ q ∈ qs, q ∈ F
theorem SP.first {n : Int} {ps : List Pi} {d : Int → Int → Int} {s : Pl} (hs : okP n ps s) : SP n ps d s [s] 0 [] where
  nd := by simp
  ok := fun p hp => by rw [List.mem_singleton.mp hp]; exact hs
  src := List.mem_cons_self
  par := fun v hv nv => absurd (List.mem_singleton.mp hv) nv
  le := Nat.zero_le _
  cl := fun j u hj => absurd hj (Nat.not_lt_zero _)
  now := fun q hq => absurd hq List.not_mem_nil
theorem SP.have {n : Int} {ps : List Pi} {d : Int → Int → Int} {s v : Pl} {F : List Pl} {t : Nat} {qs : List Pl} (S : SP n ps d s F t qs) (hv : v ∈ F) : SP n ps d s F t (qs ++ [v]) :=
  ⟨S.nd, S.ok, S.src, S.par, S.le, S.cl, fun q hq => (List.mem_append.mp hq).elim (S.now q) (fun z => by rw [List.mem_singleton.mp z]; exact hv)⟩
theorem SP.add {n : Int} {ps : List Pi} {d : Int → Int → Int} {s h v : Pl} {F : List Pl} {t : Nat} {qs : List Pl} (T : Tm n ps d) (S : SP n ps d s F t qs) (hh : h ∈ F) (nv : v ∉ F) (e : Adj ps h v) : SP n ps d s (F ++ [v]) t (qs ++ [v]) ∧ Dp ps d s v = Dp ps d s h + 1 := by
  have R := T.places (S.ok s S.src)
  have dv := R.found S.par hh (S.ok h hh) ⟨e, rfl⟩ nv
  refine ⟨⟨?_, ?_, List.mem_append_left _ S.src, S.par.snoc hh ⟨e.symm, rfl⟩ dv, by have := S.le; rw [List.length_append]; omega, ?_, ?_⟩, dv⟩
  · refine List.nodup_append.mpr ⟨S.nd, by simp, fun a ha b hb z => ?_⟩
    rw [List.mem_singleton.mp hb] at z
    exact nv (z ▸ ha)
  · intro p hp
    rcases List.mem_append.mp hp with m | m
    · exact S.ok p m
    · rw [List.mem_singleton.mp m]; exact ok_adj T e
  · intro j u hj gu x ex
    have c : j < F.length := Nat.lt_of_lt_of_le hj S.le
    rw [List.getElem?_append_left c] at gu
    exact List.mem_append_left _ (S.cl j u hj gu x ex)
  · intro q hq
    rcases List.mem_append.mp hq with m | m
    · exact List.mem_append_left _ (S.now q m)
    · exact List.mem_append_right _ m
theorem SP.done {n : Int} {ps : List Pi} {d : Int → Int → Int} {s h : Pl} {F : List Pl} {t : Nat} {qs : List Pl} (S : SP n ps d s F t qs) (gh : F[t]? = some h) (hq : ∀ q, Adj ps h q → q ∈ qs) : SP n ps d s F (t + 1) [] where
  nd := S.nd
  ok := S.ok
  src := S.src
  par := S.par
  le := (List.getElem?_eq_some_iff.mp gh).1
  cl := fun j u hj gu v e => by
    by_cases c : j < t
    · exact S.cl j u c gu v e
    · have ej : j = t := by omega
      subst ej
      rw [gh] at gu; cases gu
      exact S.now v (hq v e)
  now := fun q hq => absurd hq List.not_mem_nil
theorem SP.all {n : Int} {ps : List Pi} {d : Int → Int → Int} {s : Pl} {F : List Pl} (T : Tm n ps d) (S : SP n ps d s F F.length []) {p : Pl} (ok : okP n ps p) : p ∈ F := by
  refine (T.places (S.ok s S.src)).all S.src (fun u hu v w e => ?_) _ p ok (Nat.lt_succ_self _)
  obtain ⟨j, gj⟩ := List.mem_iff_getElem?.mp hu
  exact S.cl j u (List.getElem?_eq_some_iff.mp gj).1 gj v e.1
def ParE (G : Hp) (ps : List Pi) (d : Int → Int → Int) (s p : Pl) (o : V) : Prop := (p = s ∧ o = .non) ∨ ∃ (Tu : Addr) (u : Pl), o = .ref Tu ∧ G Tu = some (.tup (u.map V.int)) ∧ Adj ps p u ∧ Dp ps d s p = Dp ps d s u + 1
theorem ParE.keep {G G' : Hp} {ps : List Pi} {d : Int → Int → Int} {s p : Pl} {o : V} (h : ParE G ps d s p o) (k : ∀ b xs, G b = some (.tup xs) → G' b = some (.tup xs)) : ParE G' ps d s p o := by
  rcases h with z | ⟨Tu, u, h1, h2, h3⟩
  · exact .inl z
  · exact .inr ⟨Tu, u, h1, k Tu _ h2, h3⟩
def FoundE (G : Hp) (gk : List (List Key × V)) (F : List Pl) (ps : List Pi) (d : Int → Int → Int) (s : Pl) : Prop :=
  gk.length = F.length ∧ (∀ p ∈ F, ∃ (T : Addr) (o : V), valV gk (keyOf p) = some (.ref T) ∧ G T = some (.tup [.int (Dp ps d s p), o]) ∧ ParE G ps d s p o) ∧ ∀ p, p ∉ F → valV gk (keyOf p) = none
theorem FoundE.keep {G G' : Hp} {gk : List (List Key × V)} {F : List Pl} {ps : List Pi} {d : Int → Int → Int} {s : Pl} (h : FoundE G gk F ps d s) (k : ∀ b xs, G b = some (.tup xs) → G' b = some (.tup xs)) : FoundE G' gk F ps d s := by
  refine ⟨h.1, fun p hp => ?_, h.2.2⟩
  obtain ⟨T, o, h1, h2, h3⟩ := h.2.1 p hp
  exact ⟨T, o, h1, k T _ h2, h3.keep k⟩
theorem FoundE.put {G : Hp} {gk : List (List Key × V)} {F : List Pl} {ps : List Pi} {d : Int → Int → Int} {s v : Pl} {T : Addr} {o : V} (h : FoundE G gk F ps d s) (nv : v ∉ F) (eT : G T = some (.tup [.int (Dp ps d s v), o])) (pe : ParE G ps d s v o) : FoundE G (putK gk (keyOf v) (.ref T)) (F ++ [v]) ps d s := by
  obtain ⟨h1, h2, h3⟩ := h
  refine ⟨?_, fun t ht => ?_, fun t ht => ?_⟩
  · rw [putK_new _ (h3 v nv), List.length_append, List.length_append, h1]; rfl
  · rw [valV_put]
    by_cases e : t = v
    · rw [e, if_pos rfl]; exact ⟨T, o, rfl, eT, pe⟩
    · rw [if_neg (fun z => e (keyOf_inj z))]
      rcases List.mem_append.mp ht with m | m
      · exact h2 t m
      · exact absurd (List.mem_singleton.mp m) e
  · rw [valV_put, if_neg (fun z => ht (by rw [keyOf_inj z]; exact List.mem_append_right _ List.mem_cons_self))]
    exact h3 t (fun z => ht (List.mem_append_left _ z))
theorem SP.few {av : List Addr} {G : Hp} {kvs : List (List Key × V)} {n : Int} {ps : List Pi} {d : Int → Int → Int} {s : Pl} {F : List Pl} {t m : Nat} {qs : List Pl} (S : SP n ps d s F t qs) (T : Tm n ps d) (b : Bes av G kvs (Adj ps) n ps m) (rk : ∀ r, 0 ≤ r → r < n → valV kvs (keyOf [r]) ≠ none) : F.length ≤ m := by
  have z := nodup_le (F.map keyOf) (kvs.map (·.1)) ((List.Pairwise.map keyOf (fun a b (h : a ≠ b) z => h (keyOf_inj z)) S.nd)) (fun x hx => by
    obtain ⟨p, hp, rfl⟩ := List.mem_map.mp hx
    have k := bes_key T b rk (S.ok p hp)
    cases e : valV kvs (keyOf p) with
    | none => exact absurd e k
    | some v => exact valV_in e)
  rw [List.length_map, List.length_map] at z
  exact Nat.le_trans z b.1
end Rw

namespace Rw
open PySem PySem.Spec PyProof.Rows L2
section
variable {P : Program} {w : World} {K : PySem.W.Frag} {mg : Str → Option Value} {base : Heap}
abbrev sSpot : Stmt := topS 18
abbrev nSpot : List Str := ["_law_house_here", "_law_pipe", "_law_at", "_law_one", "_law_other", "_law_size"]
theorem scSpot : FnScope nSpot ["_law_house_here", "_law_pipe", "_law_at"] (defScope sSpot) := ⟨rfl, rfl, rfl, by decide +kernel, rfl, by decide +kernel, by decide +kernel⟩
def spSpot : Sp := fun vs H Q _ => ∃ (h : V) (n i t : Int) (ps : List Pi) (av : List Addr), vs = [h, .int i, .int t] ∧ Dt av H h (houseD n (ps.map Pi.dat)) ∧ 0 ≤ i ∧ i < ps.length ∧ Tr av H ∧
  ∀ (H' : Hp) (a : Addr), Keep [] H H' → H a = none → Dt av H' (.ref a) (tupI (nm ps i t)) → Tr av H' → Q (.ref a) H'
theorem ok_spot (h : Has K mg "_law_spot" sSpot) (B : Blt mg) : Can P w K mg base "_law_spot" ["_law_house_here", "_law_pipe", "_law_at"] 1 spSpot := by
  obtain ⟨f, fd, F, g⟩ := h
  refine ⟨f, fd, F.ok (k := 0) scSpot (fun vs H Q E h => ?_) (fun cdv A outer s H vs Q E hr h => ?_), g, F.kp, F.binds fun _ _ _ _ _ _ us hl => match us, hl with | [_, _, _], _ => rfl⟩
  · obtain ⟨h, n, i, t, ps, av, rfl, _⟩ := h
    rfl
  · obtain ⟨h, n, i, t, ps, av, rfl, dh, i0, i1, tr, q⟩ := h
    refine ⟨_, pss_cons (ps_asg (pe_slice sl_tup (pe_ix ix_tup (pe_ix ix_tup (pv 0) pe_int (fun _ _ => rfl)) (pv 1) (fun _ _ => rfl)) po_none (po_some pe_int)) (pg_tup (by rfl) (pgs_cons (pg_name (i := 3) scSpot.nd rfl (by first | exact Or.inl rfl | exact Or.inr rfl)) (pgs_cons (pg_name (i := 4) scSpot.nd rfl (by first | exact Or.inl rfl | exact Or.inr rfl)) (pgs_cons (pg_name (i := 5) scSpot.nd rfl (by first | exact Or.inl rfl | exact Or.inr rfl)) pgs_nil)))))
      (pss_cons (ps_if (pt_cmpR op_eq (pv 2) pe_int (nomark _)) (pss_one (ps_ret (pe_tup (pa_cons (pv 3) pa_nil)))) pss_nil)
      (pss_one (ps_ret (pe_ix ix_list (pe_lst (pa_cons (pe_tup (pa_cons (pv 1) (pa_cons (pv 2) pa_nil))) (pa_cons (pe_tup (pa_cons (pv 4) pa_nil)) pa_nil))) (pe_callTy call_int1 (by rfl) B.int_ boot_int (pa_cons (pe_cmpR op_eq (pv 2) (pv 5) (nomark _)) pa_nil)) (fun _ _ => rfl))))), ?_⟩
    obtain ⟨ah, ap, xp, rfl, nah, eah, nap, eap, dxp⟩ := house_parts dh
    obtain ⟨p', pa, T1, T2, mp, hp', epa, eP⟩ := pi_at dxp i0 i1
    have ep : p' = pr ps i := by
      have z := (pr_mem i0 i1).2
      rw [z] at hp'; exact (Option.some.inj hp').symm
    subst ep
    refine ⟨.ref ah, rfl, ah, _, 1, .ref ap, rfl, rfl, SqT.of eah, atI_nat (j := 1) rfl, .int i, rfl, ap, _, i, .ref pa, rfl, rfl, SqT.of eap, epa, 3, rfl, pa, _, rfl, SqT.of eP, (show ¬ (HT.sIx 5 0 none = 0 ∧ HT.sIx 5 5 (some 3) = 5) by decide), fun c nc => ?_⟩
    rw [show cutV [V.int (pr ps i).x, V.int (pr ps i).y, V.int (pr ps i).l, V.ref T1, V.ref T2] none (some 3) = [.int (pr ps i).x, .int (pr ps i).y, .int (pr ps i).l] from cut_to _ 3]
    refine ⟨c, [.int (pr ps i).x, .int (pr ps i).y, .int (pr ps i).l], rfl, SqT.of upd_same, rfl, _, _, rfl, _, _, rfl, _, [], rfl, rfl, ?_⟩
    have k1 : Keep [] H (upd H c (.tup [.int (pr ps i).x, .int (pr ps i).y, .int (pr ps i).l])) := Keep.new nc
    have tr1 : Tr av (upd H c (.tup [.int (pr ps i).x, .int (pr ps i).y, .int (pr ps i).l])) := tr.upd
    generalize upd H c (.tup [.int (pr ps i).x, .int (pr ps i).y, .int (pr ps i).l]) = H1 at k1 tr1
    refine ⟨.int t, rfl, rfl, _, rfl, ite2 (fun e => ?_) (fun e => ?_)⟩
    · have e0 : t = 0 := V.int.inj (of_decide_eq_true e)
      refine ⟨.int (pr ps i).x, rfl, show 1 ≤ sizeLine by decide, fun z nz => ?_⟩
      refine q _ z (k1.trans (Keep.new nz)) (k1.fr nz) ?_ tr1.upd
      rw [e0, nm_0]
      exact .tup (tr1.not nz) upd_same (.cons (.int _) .nil)
    · have e0 : t ≠ 0 := fun z => e (decide_eq_true (by rw [z]))
      refine ⟨.int i, rfl, .int t, rfl, show 2 ≤ sizeLine by decide, fun z nz => ⟨.int (pr ps i).y, rfl, show 1 ≤ sizeLine by decide, fun y ny => ?_⟩⟩
      have k2 : Keep [] H1 (upd H1 z (.tup [.int i, .int t])) := Keep.new nz
      have k3 : Keep [] H1 (upd (upd H1 z (.tup [.int i, .int t])) y (.tup [.int (pr ps i).y])) := k2.trans (Keep.new ny)
      have ez : (upd (upd H1 z (.tup [.int i, .int t])) y (.tup [.int (pr ps i).y])) z = some (.tup [.int i, .int t]) := by
        rw [upd_ne (ne_of_none (upd_same (H := H1) (a := z)) ny)]; exact upd_same
      have tr3 : Tr av (upd (upd H1 z (.tup [.int i, .int t])) y (.tup [.int (pr ps i).y])) := tr1.upd.upd
      have nzav : z ∉ av := tr1.not nz
      have nyav : y ∉ av := (tr1.upd (p := z) (o := .tup [.int i, .int t])).not ny
      refine ⟨show 2 ≤ sizeLine by decide, fun l nl => ?_⟩
      refine ⟨.int t, rfl, .int (pr ps i).l, rfl, rfl, .inr ⟨_, rfl, ?_⟩⟩
      have k4 := k3.trans (Keep.new (av := []) (o := .lst [.ref z, .ref y]) nl)
      by_cases hc : t = (pr ps i).l
      · rw [show decide (V.int t = V.int (pr ps i).l) = true from decide_eq_true (by rw [hc])]
        refine ⟨l, [.ref z, .ref y], 1, .ref y, rfl, rfl, SqL.of upd_same, atI_nat (j := 1) rfl, ?_⟩
        refine q _ y (k1.trans k4) ((k1.trans k2).fr ny) ?_ tr3.upd
        have en : nm ps i t = [(pr ps i).y] := by
          have l0 : (pr ps i).l ≠ 0 := by rw [← hc]; exact e0
          rw [hc, nm_l l0]
        rw [en]
        exact (Dt.tup nyav upd_same (.cons (.int _) .nil)).keep (Keep.new nl)
      · rw [show decide (V.int t = V.int (pr ps i).l) = false from decide_eq_false fun y => hc (V.int.inj y)]
        refine ⟨l, [.ref z, .ref y], 0, .ref z, rfl, rfl, SqL.of upd_same, atI_nat (j := 0) rfl, ?_⟩
        refine q _ z (k1.trans k4) (k1.fr nz) ?_ tr3.upd
        rw [nm_mid e0 hc]
        exact (Dt.tup nzav ez (.cons (.int _) (.cons (.int _) .nil))).keep (Keep.new nl)
end
end Rw

namespace Rw
open PySem PySem.Spec PyProof.Rows L2
theorem cr_sortVIK {X : Cx} {K : PySem.W.Frag} (h : X.K = K) (hu : X.A.units + 10 < cLine) : CallR X (.builtin "sorted") (rSortVI K) := by subst h; exact cr_sortVI hu
theorem putK_nodup {κ : Type} [DecidableEq κ] {kvs : List (κ × V)} {k : κ} {v : V} (nd : (kvs.map (·.1)).Nodup) : ((putK kvs k v).map (·.1)).Nodup := by
  unfold putK
  split
  · rw [List.map_map]
    have : ((fun x : κ × V => x.1) ∘ fun p : κ × V => if p.1 = k then (p.1, v) else p) = fun x => x.1 := by funext x; show (if x.1 = k then (x.1, v) else x).1 = x.1; split <;> rfl
    rw [this]; exact nd
  · rename_i hn
    rw [List.map_append]
    refine List.nodup_append.mpr ⟨nd, by simp, fun a ha b hb z => ?_⟩
    obtain ⟨x, hx, rfl⟩ := List.mem_map.mp ha
    have hb' : b = k := by simpa using hb
    exact hn (List.any_eq_true.mpr ⟨x, hx, decide_eq_true (z.trans hb')⟩)
theorem valV_at {κ : Type} [DecidableEq κ] : ∀ {kvs : List (κ × V)} {k : κ} {v : V}, (kvs.map (·.1)).Nodup → (k, v) ∈ kvs → valV kvs k = some v
  | [], _, _, _, h => absurd h List.not_mem_nil
  | p :: kvs, k, v, nd, h => by
    rw [List.map_cons, List.nodup_cons] at nd
    rcases List.mem_cons.mp h with e | h
    · subst e; exact valV_pos rfl
    · rw [valV_neg (fun z => nd.1 (by rw [z]; exact List.mem_map.mpr ⟨_, h, rfl⟩))]
      exact valV_at nd.2 h
theorem valV_mem {κ : Type} [DecidableEq κ] {kvs : List (κ × V)} {k : κ} {v : V} (h : valV kvs k = some v) : (k, v) ∈ kvs := by
  unfold valV at h
  obtain ⟨x, hx, e⟩ := Option.map_eq_some_iff.mp h
  have := List.find?_some hx
  have e1 : x.1 = k := of_decide_eq_true this
  have e2 := List.mem_of_find?_eq_some hx
  rw [← e1, ← e]; exact e2
/-! the places next to each place, rising -/
def NexRow (av : List Addr) (G : Hp) (n : Int) (ps : List Pi) (p : Pl) (v : V) : Prop := ∃ (L : Addr) (us : List V) (qs : List Pl), v = .ref L ∧ L ∉ av ∧ G L = some (.lst us) ∧ Dts av G us ((sortL qs).map tupI) ∧ us.length ≤ 1000 ∧ qs.Nodup ∧ ∀ q, q ∈ qs ↔ Adj ps p q
def Nex (av : List Addr) (G : Hp) (kvs : List (List Key × V)) (n : Int) (ps : List Pi) : Prop :=
  kvs.length ≤ 1000 ∧ (∀ kv ∈ kvs, ∃ p, okP n ps p ∧ kv.1 = keyOf p) ∧ ∀ p, okP n ps p → ∃ v, valV kvs (keyOf p) = some v ∧ NexRow av G n ps p v
def RowOk (av : List Addr) (G : Hp) (n : Int) (ps : List Pi) (r : RowT) : Prop := ∃ p, okP n ps p ∧ r.2.2.1 = keyOf p ∧ NexRow av G n ps p r.2.2.2 ∧ G r.1 = some (.tup [.ref r.2.1, r.2.2.2]) ∧ G r.2.1 = some (.tup (r.2.2.1.map kV))
theorem NexRow.keep {av : List Addr} {G G' : Hp} {n : Int} {ps : List Pi} {p : Pl} {v : V} (h : NexRow av G n ps p v) (k : Keep av G G') : NexRow av G' n ps p v := by
  obtain ⟨L, us, qs, h1, h2, h3, h4, h5⟩ := h
  exact ⟨L, us, qs, h1, h2, k L _ h3 h2, h4.keep k, h5⟩
theorem NexRow.less {av av' : List Addr} {G : Hp} {n : Int} {ps : List Pi} {p : Pl} {v : V} (h : NexRow av G n ps p v) (s : ∀ a ∈ av', a ∈ av) : NexRow av' G n ps p v := by
  obtain ⟨L, us, qs, h1, h2, h3, h4, h5⟩ := h
  exact ⟨L, us, qs, h1, fun m => h2 (s _ m), h3, h4.less s, h5⟩
theorem NexRow.more {av : List Addr} {G : Hp} {n : Int} {ps : List Pi} {p : Pl} {v : V} {q : Addr} (h : NexRow av G n ps p v) (nq : G q = none) : NexRow (q :: av) G n ps p v := by
  obtain ⟨L, us, qs, h1, h2, h3, h4, h5⟩ := h
  exact ⟨L, us, qs, h1, fun m => (List.mem_cons.mp m).elim (ne_of_none h3 nq) h2, h3, h4.more nq, h5⟩
theorem Nex.keep {av : List Addr} {G G' : Hp} {kvs : List (List Key × V)} {n : Int} {ps : List Pi} (h : Nex av G kvs n ps) (k : Keep av G G') : Nex av G' kvs n ps :=
  ⟨h.1, h.2.1, fun p ok => let ⟨v, e, r⟩ := h.2.2 p ok; ⟨v, e, r.keep k⟩⟩
theorem Nex.less {av av' : List Addr} {G : Hp} {kvs : List (List Key × V)} {n : Int} {ps : List Pi} (h : Nex av G kvs n ps) (s : ∀ a ∈ av', a ∈ av) : Nex av' G kvs n ps :=
  ⟨h.1, h.2.1, fun p ok => let ⟨v, e, r⟩ := h.2.2 p ok; ⟨v, e, r.less s⟩⟩
section
variable {P : Program} {w : World} {K : PySem.W.Frag} {mg : Str → Option Value} {base : Heap}
abbrev sNex : Stmt := topS 19
abbrev nNex : List Str := ["_law_house_here", "_law_found", "_law_room", "_law_pipe", "_law_at", "_law_row", "_law_here", "_law_there", "_law_place"]
theorem scNex : FnScope nNex ["_law_house_here"] (defScope sNex) := ⟨rfl, rfl, rfl, by decide +kernel, rfl, by decide +kernel, by decide +kernel⟩
def spNex : Sp := fun vs H Q _ => ∃ (h : V) (n : Int) (ps : List Pi) (d : Int → Int → Int) (av : List Addr), vs = [h] ∧ Dt av H h (houseD n (ps.map Pi.dat)) ∧ HouseOk n ps ∧ Tm n ps d ∧ (∀ p ∈ ps, p.l ≤ 10) ∧ Tr av H ∧
  ∀ (H' : Hp) (Fd : Addr) (kvs : List (List Key × V)), Keep [] H H' → H Fd = none → Tr av H' → H' Fd = some (.dT kvs) → Nex (Fd :: av) H' kvs n ps → Q (.ref Fd) H'
theorem ok_nex (h : Has K mg "_law_nexts" sNex) (B : Blt mg) (mz : mg "zip" = none) (md : mg "dict" = none) (CS : Can P w K mg base "_law_spot" ["_law_house_here", "_law_pipe", "_law_at"] 1 spSpot) : Can P w K mg base "_law_nexts" ["_law_house_here"] 2 spNex := by
  obtain ⟨f, fd, F, g⟩ := h
  refine ⟨f, fd, F.ok (k := 1) scNex (fun vs H Q E h => ?_) (fun cdv A outer s H vs Q E hr h => ?_), g, F.kp, F.binds fun _ _ _ _ _ _ us hl => match us, hl with | [_], _ => rfl⟩
  · obtain ⟨h, n, ps, d, av, rfl, _⟩ := h
    rfl
  · obtain ⟨h, n, ps, d, av, rfl, hh, hk, T, short, tr, q⟩ := h
    refine ⟨_, pss_cons (ps_set (i := 1) scNex.nd rfl (by first | exact Or.inl rfl | exact Or.inr rfl) pe_dnewT)
      (pss_cons (ps_for PassesOwn.never rfl (pi_range1 (by rfl) B.range_ (pa_cons (pe_ix ix_tup (pv 0) pe_int (fun _ _ => rfl)) pa_nil)) (pg_name (i := 2) scNex.nd rfl (by first | exact Or.inl rfl | exact Or.inr rfl))
      (pss_one (ps_dput (hu_of hr) (pv 1) (pe_tup (pa_cons (pv 2) pa_nil)) (pe_lst pa_nil) rfl)))
      (pss_cons (ps_for PassesOwn.never rfl (pi_range1 (by rfl) B.range_ (pa_cons (pe_callB call_len_seq (by rfl) B.len_ PySem.boot_len (pa_cons (pe_ix ix_tup (pv 0) pe_int (fun _ _ => rfl)) pa_nil)) pa_nil)) (pg_name (i := 3) scNex.nd rfl (by first | exact Or.inl rfl | exact Or.inr rfl))
      (pss_cons (ps_setLc (i := 5) (own := [("_law_at", 4)]) (g := gName 4) (tt := tYes) rfl scNex.nd rfl rfl (sw_true rfl rfl rfl (by decide +kernel)) (pi_range1 (by rfl) B.range_ (pa_cons (pe_op op_add (pe_ix ix_tup (pe_ix ix_tup (pe_ix ix_tup (pv 0) pe_int (fun _ _ => rfl)) (pv 3) (fun _ _ => rfl)) pe_int (fun _ _ => rfl)) pe_int) pa_nil)) (blkOk_by (N := nNex) (sc := defScope sNex) (by decide +kernel)) (fun _ _ _ _ _ => (pg_name (i := 4) scNex.nd rfl (by first | exact Or.inl rfl | exact Or.inr rfl))) (fun _ _ _ _ _ => pts_nil) (fun _ _ _ _ _ => (pe_can CS (hr.mono (by decide)) (by rfl) (pa_cons (pv 0) (pa_cons (pv 3) (pa_cons (pv 4) pa_nil))))))
      (pss_one (ps_for PassesOwn.never rfl (pi_zip (by rfl) mz (pa_cons (pv 5) (pa_cons (pe_slice sl_list (pv 5) (po_some pe_int) po_none) pa_nil))) (pg_tup (by rfl) (pgs_cons (pg_name (i := 6) scNex.nd rfl (by first | exact Or.inl rfl | exact Or.inr rfl)) (pgs_cons (pg_name (i := 7) scNex.nd rfl (by first | exact Or.inl rfl | exact Or.inr rfl)) pgs_nil)))
      (pss_cons (ps_dput (hu_of hr) (pv 1) (pv 6) (pe_op op_cat (pe_dget2 (hu_of hr) (pv 1) (pv 6) (pe_lst pa_nil) ⟨by rfl, by rfl, by rfl, by rfl⟩) (pe_lst (pa_cons (pv 7) pa_nil))) rfl)
      (pss_one (ps_dput (hu_of hr) (pv 1) (pv 7) (pe_op op_cat (pe_dget2 (hu_of hr) (pv 1) (pv 7) (pe_lst pa_nil) ⟨by rfl, by rfl, by rfl, by rfl⟩) (pe_lst (pa_cons (pv 6) pa_nil))) rfl)))))))
      (pss_one (ps_ret (pe_callTy (call_dictT rfl (Nat.lt_of_le_of_lt (Nat.add_le_add_left (show 2 ≤ 10 by decide) _) (hu10 hr))) (by rfl) md (by decide +kernel) (pa_cons (pe_lock (pe_lc (own := [("_law_place", 8)]) (g := gName 8) (tt := tYes) rfl scNex.nd (pi_keys (pv 1)) (blkOk_by (N := nNex) (sc := defScope sNex) (by decide +kernel)) (fun _ _ _ _ _ => (pg_name (i := 8) scNex.nd rfl (by first | exact Or.inl rfl | exact Or.inr rfl))) (fun _ _ _ _ _ => pts_nil) (fun _ _ _ _ _ => (pe_tup (pa_cons (pv 8) (pa_cons (pe_callB (cr_sortVIK (K := K) rfl (hu10 hr)) (by rfl) B.sorted_ boot_sorted (pa_cons (pe_dget (hu_of hr) (pv 1) (pv 8) (fun _ _ => rfl)) pa_nil)) pa_nil)))))) pa_nil)))))), ?_⟩
    have n1 := hk.n1
    have n2 := hk.n2
    have ln := hk.len
    refine fun Fd nF => ?_
    obtain ⟨ah, ap, xp, rfl, na, ea, nb, eb, db⟩ := house_parts hh
    have kF : Keep [] H (upd H Fd (.dT [])) := Keep.new nF
    have nFa : ah ≠ Fd := ne_of_none ea nF
    refine ⟨.ref ah, rfl, ah, [.int n, .ref ap], 0, .int n, rfl, rfl, SqT.of (kF ah _ ea List.not_mem_nil), atI_nat (j := 0) rfl, n, rfl, by omega, by omega, for_range (lo := 0) (n := n.toNat)
      (fun i σ G => ∃ s2, σ = [some (.ref ah), some (.ref Fd), s2, none, none, none, none, none, none] ∧ Keep [] H G ∧ Tr (Fd :: av) G ∧ ∃ kvs, G Fd = some (.dT kvs) ∧ (kvs.map (·.1)).Nodup ∧ Bes (Fd :: av) G kvs (AdjTo ps 0 0) n ps i ∧ ∀ r : Int, 0 ≤ r → r < i → valV kvs (keyOf [r]) ≠ none)
      ⟨none, rfl, kF, (tr.upd).cons upd_same, [], upd_same, List.nodup_nil, ⟨Nat.le_refl _, fun kv z => absurd z List.not_mem_nil, fun p => .inl ⟨rfl, fun q z => by obtain ⟨j, a, h0, h | h, _⟩ := z <;> omega⟩⟩, fun r a b => by omega⟩ (fun i σ G hi p => ?_) (fun σ G p => ?_)⟩
    · obtain ⟨s2, rfl, kG, tG, kvs, eG, ndG, bG, rG⟩ := p
      have i0 : (0 + (i : Int)) = (i : Int) := by omega
      refine ⟨show 0 ≤ sizeLine by decide, fun L nL => ⟨.ref Fd, rfl, .int (0 + (i : Int)), rfl, show 1 ≤ sizeLine by decide, fun T1 nT => ?_⟩⟩
      have k1 : Keep [] G (upd (upd G L (.lst [])) T1 (.tup [.int (0 + (i : Int))])) := (Keep.new nL).trans (Keep.new nT)
      have eL : (upd (upd G L (.lst [])) T1 (.tup [.int (0 + (i : Int))])) L = some (.lst []) := Keep.new (av := []) nT _ _ upd_same List.not_mem_nil
      have eT : (upd (upd G L (.lst [])) T1 (.tup [.int (0 + (i : Int))])) T1 = some (.tup ((keyOf [(i : Int)]).map kV)) := by rw [keyOf_kV]; exact upd_same.trans (by rw [i0]; rfl)
      have eF := k1 Fd _ eG List.not_mem_nil
      have lk : kvs.length < sizeLine := Nat.lt_of_le_of_lt bG.1 (Nat.lt_of_lt_of_le (by omega : i < 1000) (small1000 (by omega)))
      refine ⟨Fd, _, rfl, DPut.t (k := keyOf [(i : Int)]) eF eT lk, ?_⟩
      have nLav : L ∉ Fd :: av := tG.not nL
      refine ⟨_, rfl, (kG.trans k1).upd nF, ((tG.upd).upd).upd, _, upd_same, putK_nodup ndG, ?_, fun r r0 r1 => ?_⟩
      · refine ((bG.keep k1.of).put (R' := AdjTo ps 0 0) (p := [(i : Int)]) (L := L) (us := []) (qs := []) ⟨by omega, by omega⟩ nLav eL .nil (Nat.zero_le _) List.nodup_nil (fun q => ⟨fun z => absurd z List.not_mem_nil, fun z => by obtain ⟨j, a, h0, h | h, _⟩ := z <;> omega⟩) (fun _ _ _ => Iff.rfl)).keep (Keep.put List.mem_cons_self)
      · rw [valV_put]
        split
        · intro z; cases z
        · rename_i ne
          exact rG r r0 (by
            have : r ≠ (i : Int) := fun z => ne (by rw [z])
            omega)
    · obtain ⟨s2, rfl, kG, tG, kvs, eG, ndG, bG, rG⟩ := p
      have rG' : ∀ r : Int, 0 ≤ r → r < n → valV kvs (keyOf [r]) ≠ none := fun r a b => rG r a (by omega)
      have ebG := kG ap _ eb List.not_mem_nil
      have xl : xp.length = ps.length := by rw [db.len, List.length_map]
      refine ⟨.ref ah, rfl, ah, [.int n, .ref ap], 1, .ref ap, rfl, rfl, SqT.of (kG ah _ ea List.not_mem_nil), atI_nat (j := 1) rfl, ap, xp, rfl, .inr (SqT.of ebG), (xp.length : Int), rfl, by omega, by omega, for_range (lo := 0) (n := ((xp.length : Int)).toNat)
        (fun i σ J => ∃ s2 s3 s4 s5 s6 s7, σ = [some (.ref ah), some (.ref Fd), s2, s3, s4, s5, s6, s7, none] ∧ Keep [] H J ∧ Tr (Fd :: av) J ∧ ∃ kvs, J Fd = some (.dT kvs) ∧ (kvs.map (·.1)).Nodup ∧ Bes (Fd :: av) J kvs (AdjTo ps (i : Int) 0) n ps (100 + 20 * i) ∧ ∀ r : Int, 0 ≤ r → r < n → valV kvs (keyOf [r]) ≠ none)
        ⟨_, _, _, _, _, _, rfl, kG, tG, kvs, eG, ndG, ⟨by have := bG.1; omega, bG.2.1, fun p => (bG.2.2 p).imp id (fun ⟨L, us, qs, h1, h2, h3, h4, h5, h6⟩ => ⟨L, us, qs, h1, h2, h3, h4, by omega, h6⟩)⟩, rG'⟩ (fun i σ JA hi p => ?_) (fun σ J p => ?_)⟩
      · obtain ⟨s2, s3, s4, s5, s6, s7, rfl, kHA, tA, kvs, eA, ndA, bA, rJ⟩ := p
        have i0 : (0 + (i : Int)) = (i : Int) := by omega
        have hi' : i < ps.length := by omega
        obtain ⟨pok, pg⟩ := hk.at hi'
        have dbJ := db.keep (kHA.of)
        obtain ⟨pp, pa, T1, T2, _, gp, ga, epA⟩ := pi_at dbJ (i := (i : Int)) (by omega) (by omega)
        have epp : pp = pr ps (i : Int) := by
          rw [show ((i : Int)).toNat = i by omega, pg] at gp
          exact (Option.some.inj gp).symm
        subst epp
        have l1 := pok.fit.l1
        have l10 : (pr ps (i : Int)).l ≤ 10 := short _ (pr_mem (by omega) (by omega)).1
        refine ⟨.ref ah, rfl, ah, [.int n, .ref ap], 1, .ref ap, rfl, rfl, SqT.of (kHA ah _ ea List.not_mem_nil), atI_nat (j := 1) rfl, .int (0 + (i : Int)), rfl, ap, xp, _, .ref pa, rfl, rfl, SqT.of (kHA ap _ eb List.not_mem_nil), by rw [i0]; exact ga, pa, _, 2, .int (pr ps (i : Int)).l, rfl, rfl, SqT.of epA, atI_nat (j := 2) rfl, (pr ps (i : Int)).l, 1, rfl, rfl, (pr ps (i : Int)).l + 1, rfl, by omega, by omega, fun W nW => ?_⟩
        have fW : H W = none := kHA.fr nW
        have nWF : W ∉ Fd :: av := tA.not nW
        have hhW : Dt (W :: Fd :: av) H (.ref ah) (houseD n (ps.map Pi.dat)) := (hh.more nF).more fW
        refine lc_range (lo := 0) (n := ((pr ps (i : Int)).l + 1).toNat) (fun t G => Keep [] JA G ∧ Tr (W :: Fd :: av) G ∧ ∃ us : List V, G W = some (.lst us) ∧ us.length = t ∧ Dts (W :: Fd :: av) G us ((List.range t).map fun a : Nat => tupI (nm ps (i : Int) (a : Int))))
          ⟨Keep.new nW, (tA.upd).cons upd_same, [], upd_same, rfl, .nil⟩ (fun t G ht p => ?_) (fun G p => ?_)
        · obtain ⟨kG, tG, us, eW, lu, du⟩ := p
          refine ⟨rfl, .ref ah, rfl, .int (0 + (i : Int)), rfl, .int (0 + (t : Int)), rfl, .ref ah, n, 0 + (i : Int), 0 + (t : Int), ps, W :: Fd :: av, rfl, hhW.keep (kHA.trans kG).of, by omega, by omega, tG, fun G2 a k2 fa da t2 => ?_⟩
          have eW2 := k2 W _ eW List.not_mem_nil
          refine ⟨us, eW2, Nat.lt_of_lt_of_le (by omega : us.length < 1000) (small1000 (by omega)), (kG.trans k2).upd nW, t2.upd, us ++ [.ref a], upd_same, by rw [List.length_append, lu]; rfl, ?_⟩
          rw [List.range_succ, List.map_append]
          rw [show (0 + (t : Int)) = (t : Int) by omega, i0] at da
          exact ((du.keep k2.of).app (.cons da .nil)).keep (Keep.put List.mem_cons_self)
        · obtain ⟨kG, tG, us, eW, lu, du⟩ := p
          have lus : ((us.length : Int) - 1) = (pr ps (i : Int)).l := by omega
          have du' : Dts (Fd :: av) G us ((List.range us.length).map fun a : Nat => tupI (nm ps (i : Int) (a : Int))) := by
            rw [lu]; exact du.less fun a m => List.mem_cons_of_mem _ m
          have bG2 := bA.keep (kG.of (av := Fd :: av))
          have lane : ∀ (J : Hp) (a : Nat), Keep [Fd] G J → a < us.length → ∃ Ta : Addr, us[a]? = some (.ref Ta) ∧ J Ta = some (.tup ((keyOf (nm ps (i : Int) (a : Int))).map kV)) ∧ Dt (Fd :: av) J (.ref Ta) (tupI (nm ps (i : Int) (a : Int))) := fun J a kJ ha => by
            obtain ⟨v, gv, dv⟩ := du'.get a (d := tupI (nm ps (i : Int) (a : Int))) (by rw [List.getElem?_map, List.getElem?_range ha]; rfl)
            have dv' := dv.keep (kJ.mono (fun z m => by rw [List.mem_singleton.mp m]; exact List.mem_cons_self))
            obtain ⟨Ta, rfl, _, eT⟩ := tupI_at dv'
            exact ⟨Ta, gv, by rw [keyOf_kV]; exact eT, dv'⟩
          refine ⟨.ref W, rfl, .ref W, rfl, 1, rfl, W, us, rfl, SqL.of eW, fun W2 nW2 => ?_⟩
          have ecut : cutV us (some 1) none = us.drop 1 := cut_from us 1
          rw [ecut]
          have kW2 : Keep [] G (upd G W2 (.lst (us.drop 1))) := Keep.new nW2
          have eW20 : (upd G W2 (.lst (us.drop 1))) W2 = some (.lst (us.drop 1)) := upd_same
          have tG2 : Tr (Fd :: av) (upd G W2 (.lst (us.drop 1))) := fun a m => (tG.upd) a (List.mem_cons_of_mem _ m)
          have kA2 := kG.trans kW2
          have eW0 := kW2 W _ eW List.not_mem_nil
          have bG3 := bA.keep (kA2.of (av := Fd :: av))
          replace lane := fun (J : Hp) (a : Nat) (kJ : Keep [Fd] (upd G W2 (.lst (us.drop 1))) J) => lane J a (kW2.of.trans kJ)
          generalize upd G W2 (.lst (us.drop 1)) = G2 at kA2 eW20 tG2 eW0 bG3 lane ⊢
          have nW2F : W2 ≠ Fd := fun z => by
            have := kG Fd _ eA List.not_mem_nil
            rw [← z, nW2] at this; cases this
          refine ⟨W, W2, us, us.drop 1, rfl, SqL.of eW0, SqL.of eW20, for_it (walk_zip (K := K) (a := W) (b := W2) (xs := us) (ys := us.drop 1) (n := us.length - 1) (by rw [List.length_drop]; omega))
            (fun k σ J => ∃ s2 s3 s4 s6 s7, σ = [some (.ref ah), some (.ref Fd), s2, s3, s4, some (.ref W), s6, s7, none] ∧ Keep [Fd] G2 J ∧ Keep [] H J ∧ Tr (Fd :: av) J ∧ ∃ kvs, J Fd = some (.dT kvs) ∧ (kvs.map (·.1)).Nodup ∧ Bes (Fd :: av) J kvs (AdjTo ps (i : Int) (k : Int)) n ps (100 + 20 * i + 2 * k) ∧ ∀ r : Int, 0 ≤ r → r < n → valV kvs (keyOf [r]) ≠ none)
            ⟨_, _, _, _, _, rfl, Keep.refl _ _, kHA.trans kA2, tG2, kvs, kA2 Fd _ eA List.not_mem_nil, ndA, bG3, rJ⟩ (fun k σ J2 _ p => ?_) (fun k x σ J2 J2' hk2 p y => ?_) (fun σ J2 p => ?_)⟩
          · obtain ⟨_, _, _, _, _, _, kJ2, _⟩ := p
            exact ⟨SqL.of (kJ2 W _ eW0 (fun m => nWF (by rw [List.mem_singleton.mp m]; exact List.mem_cons_self))), SqL.of (kJ2 W2 _ eW20 (fun m => nW2F (List.mem_singleton.mp m)))⟩
          · obtain ⟨s2, s3, s4, s6, s7, rfl, kJ2, kH2, tJ2, kvs, eF, ndF, bF, rF⟩ := p
            obtain ⟨T0, x1, y1, rfl, nT, rfl, hx1, hy1⟩ := y
            have kc : (((k + 1 : Nat)) : Int) = (k : Int) + 1 := by omega
            have kT0 : Keep [] J2 (upd J2 T0 (.tup [x1, y1])) := Keep.new nT
            replace kJ2 := kJ2.trans (kT0.of (av := [Fd]))
            replace kH2 := kH2.trans kT0
            replace tJ2 : Tr (Fd :: av) (upd J2 T0 (.tup [x1, y1])) := tJ2.upd
            replace eF := kT0 Fd _ eF List.not_mem_nil
            replace bF := bF.keep (kT0.of (av := Fd :: av))
            have eT0 : (upd J2 T0 (.tup [x1, y1])) T0 = some (.tup [x1, y1]) := upd_same
            generalize upd J2 T0 (.tup [x1, y1]) = J2 at kJ2 kH2 tJ2 eF bF eT0 ⊢
            obtain ⟨Ta, gTa, eTa, dTa⟩ := lane J2 k kJ2 (by omega)
            obtain ⟨Tb, gTb, eTb, dTb⟩ := lane J2 (k + 1) kJ2 (by omega)
            rw [kc] at eTb dTb
            have ex1 : x1 = .ref Ta := by
              have : us[k]? = some x1 := hx1
              rw [gTa] at this; exact (Option.some.inj this).symm
            have ey1 : y1 = .ref Tb := by
              have : (us.drop 1)[k]? = some y1 := hy1
              rw [List.getElem?_drop, Nat.add_comm, gTb] at this; exact (Option.some.inj this).symm
            subst ex1 ey1
            refine ⟨T0, [.ref Ta, .ref Tb], rfl, SqT.of eT0, rfl, _, _, rfl, _, [], rfl, rfl, ?_⟩
            have okA : okP n ps (nm ps (i : Int) (k : Int)) := ok_nm T (by omega) (by omega) (by omega) (by omega)
            have okB : okP n ps (nm ps (i : Int) ((k : Int) + 1)) := ok_nm T (by omega) (by omega) (by omega) (by omega)
            refine ⟨.ref Fd, rfl, Fd, rfl, .inr ⟨kvs, .inl eF⟩, .ref Ta, rfl, show 0 ≤ sizeLine by decide, fun E nE => ?_⟩
            have kE : Keep [] J2 (upd J2 E (.lst [])) := Keep.new nE
            obtain ⟨L0, us0, qs0, g0, e0, d0, l0, h0⟩ := bF.get tJ2 nE (nm ps (i : Int) (k : Int))
            refine ⟨_, DGet.t (k := keyOf (nm ps (i : Int) (k : Int))) (kE Fd _ eF List.not_mem_nil) (kE Ta _ eTa List.not_mem_nil), ?_⟩
            refine ⟨.ref Tb, rfl, show 1 ≤ sizeLine by decide, fun L1 nL1 => ?_⟩
            have kL : Keep [] (upd J2 E (.lst [])) (upd (upd J2 E (.lst [])) L1 (.lst [.ref Tb])) := Keep.new nL1
            refine ⟨L0, L1, us0, [.ref Tb], g0, rfl, kL L0 _ e0 List.not_mem_nil, upd_same, ?_, fun N nN => ?_⟩
            · exact Nat.le_trans (by show us0.length + 1 ≤ 1000; omega) (small1000 (by omega))
            have kN : Keep [] (upd (upd J2 E (.lst [])) L1 (.lst [.ref Tb])) (upd (upd (upd J2 E (.lst [])) L1 (.lst [.ref Tb])) N (.lst (us0 ++ [.ref Tb]))) := Keep.new nN
            have k3 := kE.trans (kL.trans kN)
            have lk : kvs.length < sizeLine := Nat.lt_of_le_of_lt bF.1 (Nat.lt_of_lt_of_le (by omega : 100 + 20 * i + 2 * k < 1000) (small1000 (by omega)))
            refine ⟨.ref Fd, rfl, .ref Ta, rfl, Fd, _, rfl, DPut.t (k := keyOf (nm ps (i : Int) (k : Int))) (k3 Fd _ eF List.not_mem_nil) (k3 Ta _ eTa List.not_mem_nil) lk, ?_⟩
            obtain ⟨c1, c2, c3, c4, c5, c6⟩ := bes_put2 nF kH2 tJ2 eF bF rF okA dTb nE nL1 nN d0 l0 h0 (not_yet T (by omega) (by omega) (by omega) (by omega)) _ rfl
            generalize upd (upd (upd (upd J2 E (.lst [])) L1 (.lst [.ref Tb])) N (.lst (us0 ++ [.ref Tb]))) Fd (.dT (putK kvs (keyOf (nm ps (i : Int) (k : Int))) (.ref N))) = J3 at c1 c2 c3 c4 c5 ⊢
            have nd3 := putK_nodup (k := keyOf (nm ps (i : Int) (k : Int))) (v := .ref N) ndF
            generalize putK kvs (keyOf (nm ps (i : Int) (k : Int))) (.ref N) = kvs3 at c4 c5 c6 nd3
            have kJ3 := kJ2.trans c1
            obtain ⟨Ta', gTa', eTa3, dTa3⟩ := lane J3 k kJ3 (by omega)
            rw [gTa] at gTa'; cases gTa'
            obtain ⟨Tb', gTb', eTb3, dTb3⟩ := lane J3 (k + 1) kJ3 (by omega)
            rw [gTb] at gTb'; cases gTb'
            rw [kc] at eTb3 dTb3
            refine ⟨.ref Fd, rfl, Fd, rfl, .inr ⟨kvs3, .inl c4⟩, .ref Tb, rfl, show 0 ≤ sizeLine by decide, fun E2 nE2 => ?_⟩
            have kE2 : Keep [] J3 (upd J3 E2 (.lst [])) := Keep.new nE2
            obtain ⟨L2, us2, qs2, g2, e2, d2, l2, h2⟩ := c5.get c3 nE2 (nm ps (i : Int) ((k : Int) + 1))
            refine ⟨_, DGet.t (k := keyOf (nm ps (i : Int) ((k : Int) + 1))) (kE2 Fd _ c4 List.not_mem_nil) (kE2 Tb _ eTb3 List.not_mem_nil), ?_⟩
            refine ⟨.ref Ta, rfl, show 1 ≤ sizeLine by decide, fun L3 nL3 => ?_⟩
            have kL2 : Keep [] (upd J3 E2 (.lst [])) (upd (upd J3 E2 (.lst [])) L3 (.lst [.ref Ta])) := Keep.new nL3
            refine ⟨L2, L3, us2, [.ref Ta], g2, rfl, kL2 L2 _ e2 List.not_mem_nil, upd_same, ?_, fun N2 nN2 => ?_⟩
            · exact Nat.le_trans (by show us2.length + 1 ≤ 1000; omega) (small1000 (by omega))
            have kN2 : Keep [] (upd (upd J3 E2 (.lst [])) L3 (.lst [.ref Ta])) (upd (upd (upd J3 E2 (.lst [])) L3 (.lst [.ref Ta])) N2 (.lst (us2 ++ [.ref Ta]))) := Keep.new nN2
            have k4 := kE2.trans (kL2.trans kN2)
            have lk2 : kvs3.length < sizeLine := Nat.lt_of_le_of_lt c5.1 (Nat.lt_of_lt_of_le (by omega : 100 + 20 * i + 2 * k + 1 < 1000) (small1000 (by omega)))
            refine ⟨.ref Fd, rfl, .ref Tb, rfl, Fd, _, rfl, DPut.t (k := keyOf (nm ps (i : Int) ((k : Int) + 1))) (k4 Fd _ c4 List.not_mem_nil) (k4 Tb _ eTb3 List.not_mem_nil) lk2, ?_⟩
            obtain ⟨f1, f2, f3, f4, f5, f6⟩ := bes_put2 nF c2 c3 c4 c5 c6 okB dTa3 nE2 nL3 nN2 d2 l2 h2 (fun z => z.elim (fun w => not_yet T (by omega) (by omega) (by omega) (by omega) (AdjTo.sym' T w)) (fun w => nm_next T (by omega) (by omega) (by omega) (by omega) w.2)) _ rfl
            refine ⟨_, _, _, _, _, rfl, kJ3.trans f1, f2, f3, _, f4, putK_nodup nd3, ⟨by have := f5.1; omega, f5.2.1, fun p => ?_⟩, f6⟩
            have eqv : ∀ q, ((AdjTo ps (i : Int) (k : Int) p q ∨ (p = nm ps (i : Int) (k : Int) ∧ q = nm ps (i : Int) ((k : Int) + 1))) ∨ (p = nm ps (i : Int) ((k : Int) + 1) ∧ q = nm ps (i : Int) (k : Int))) ↔ AdjTo ps (i : Int) ((k + 1 : Nat) : Int) p q := fun q => by
              rw [kc]; exact (AdjTo.step (by omega) (by omega)).symm
            rcases f5.2.2 p with ⟨z1, z2⟩ | ⟨L, us', qs, h1, h2, h3, h4, h5, h6⟩
            · exact .inl ⟨z1, fun q z => z2 q ((eqv q).mpr z)⟩
            · exact .inr ⟨L, us', qs, h1, h2, h3, h4, by omega, h6.1, fun q => (h6.2 q).trans (eqv q)⟩
          · obtain ⟨s2, s3, s4, s6, s7, rfl, kJ2, kH2, tJ2, kvs, eJ2, ndJ2, bJ2, rJ2⟩ := p
            refine ⟨_, _, _, _, _, _, rfl, kH2, tJ2, kvs, eJ2, ndJ2, ⟨by have := bJ2.1; omega, bJ2.2.1, fun p => ?_⟩, rJ2⟩
            have eqv : ∀ q, AdjTo ps (i : Int) ((us.length - 1 : Nat) : Int) p q ↔ AdjTo ps ((i + 1 : Nat) : Int) 0 p q := fun q => by
              rw [show ((us.length - 1 : Nat) : Int) = (pr ps (i : Int)).l by omega, show (((i + 1 : Nat)) : Int) = (i : Int) + 1 by omega]
              exact AdjTo.next (by omega)
            rcases bJ2.2.2 p with ⟨z1, z2⟩ | ⟨L, us', qs, h1, h2, h3, h4, h5, h6⟩
            · exact .inl ⟨z1, fun q z => z2 q ((eqv q).mpr z)⟩
            · exact .inr ⟨L, us', qs, h1, h2, h3, h4, by omega, h6.1, fun q => (h6.2 q).trans (eqv q)⟩
      · obtain ⟨s2, s3, s4, s5, s6, s7, rfl, kJ, tJ, kvs, eJ, ndJ, bJ0, rJ⟩ := p
        have bJ : Bes (Fd :: av) J kvs (Adj ps) n ps 1000 := by
          refine ⟨by have := bJ0.1; omega, bJ0.2.1, fun p => ?_⟩
          have eqv : ∀ q, AdjTo ps (((xp.length : Int).toNat : Nat) : Int) 0 p q ↔ Adj ps p q := fun q => by rw [show (((xp.length : Int).toNat : Nat) : Int) = (ps.length : Int) by omega]; exact AdjTo.all
          rcases bJ0.2.2 p with ⟨z1, z2⟩ | ⟨L, us', qs, h1, h2, h3, h4, h5, h6⟩
          · exact .inl ⟨z1, fun q z => z2 q ((eqv q).mpr z)⟩
          · exact .inr ⟨L, us', qs, h1, h2, h3, h4, by omega, h6.1, fun q => (h6.2 q).trans (eqv q)⟩
        clear bJ0
        refine ⟨Fd, .dT kvs, eJ, trivial, fun od => ⟨.ref Fd, rfl, Fd, od, rfl, .inr ⟨kvs, upd_same, fun W3 nW3 => ?_⟩⟩⟩
        have eL : (upd J Fd (.frz od (.dT kvs))) Fd = some (.frz od (.dT kvs)) := upd_same
        have kL : Keep [Fd] J (upd J Fd (.frz od (.dT kvs))) := Keep.put List.mem_cons_self
        have kL' : Keep (Fd :: av) J (upd J Fd (.frz od (.dT kvs))) := Keep.put List.mem_cons_self
        have bL := bJ.keep kL'
        have tL : Tr (Fd :: av) (upd J Fd (.frz od (.dT kvs))) := tJ.upd
        have kHL : ∀ b o, H b = some o → (upd J Fd (.frz od (.dT kvs))) b = some o := fun b o e => by
          rw [upd_ne (ne_of_none e nF)]; exact kJ b o e List.not_mem_nil
        generalize upd J Fd (.frz od (.dT kvs)) = HL at eL kL bL tL kHL nW3 ⊢
        have nW3F : W3 ≠ Fd := (ne_of_none eL nW3).symm
        refine lc_it (walk_keysT (d := Fd) (o := od) (kvs := kvs)) (fun i G => Keep [] HL G ∧ Tr (W3 :: Fd :: av) G ∧ ∃ rows : List RowT, rows.map (·.2.2.1) = (kvs.take i).map (·.1) ∧ G W3 = some (.lst (rows.map fun r => V.ref r.1)) ∧ ∀ r ∈ rows, RowOk (W3 :: Fd :: av) G n ps r ∧ r.1 ≠ W3 ∧ r.2.1 ≠ W3)
          ⟨Keep.new nW3, (tL.upd).cons upd_same, [], rfl, upd_same, fun _ z => absurd z List.not_mem_nil⟩ (fun i G _ p => p.1 Fd _ eL List.not_mem_nil) (fun i x G0 G hi p y => ?_) (fun G p => ?_)
        · obtain ⟨kG, tG, rows, hrk, eW3, hro⟩ := p
          obtain ⟨rfl, k1, v1, q1, gk1, rfl, eq1⟩ := y
          obtain ⟨p1, ok1, ek1⟩ : ∃ p1, okP n ps p1 ∧ k1 = keyOf p1 := bJ.2.1 (k1, v1) (List.mem_of_getElem? gk1)
          subst ek1
          have hv1 : valV kvs (keyOf p1) = some v1 := valV_at ndJ (List.mem_of_getElem? gk1)
          have lrow : rows.length = i := by
            have := congrArg List.length hrk
            rw [List.length_map, List.length_map, List.length_take] at this; omega
          obtain ⟨L, us, qs, hval, nL, eLs, dL, lL, ndq, hq⟩ : ∃ (L : Addr) (us : List V) (qs : List Pl), valV kvs (keyOf p1) = some (.ref L) ∧ L ∉ Fd :: av ∧ HL L = some (.lst us) ∧ Dts (Fd :: av) HL us (qs.map tupI) ∧ us.length ≤ 1000 ∧ qs.Nodup ∧ ∀ q, q ∈ qs ↔ Adj ps p1 q := by
            rcases bL.2.2 p1 with ⟨z, _⟩ | ⟨L, us, qs, r1, r2, r3, r4, r5, r7, r6⟩
            · rw [hv1] at z; cases z
            · exact ⟨L, us, qs, r1, r2, r3, r4, r5, r7, r6⟩
          have e1 : v1 = .ref L := by rw [hv1] at hval; exact Option.some.inj hval
          subst e1
          have dL3 : Dts (W3 :: Fd :: av) G us (qs.map tupI) := (dL.more nW3).keep kG.of
          have eLG := kG L _ eLs List.not_mem_nil
          refine ⟨rfl, .ref q1, rfl, .ref Fd, rfl, .ref q1, rfl, Fd, .ref L, rfl, .inr ⟨kvs, keyOf p1, q1, .inr ⟨od, kG Fd _ eL List.not_mem_nil⟩, rfl, eq1, hv1.symm⟩, ?_⟩
          have lz : us.length = qs.length := by rw [dL.len, List.length_map]
          have hqne : ∀ b ∈ us.zip qs, b.2 ≠ [] := fun b hb => by
            have m2 := (List.of_mem_zip hb).2
            have ok2 := ok_adj T ((hq b.2).mp m2)
            intro z; rw [z] at ok2; exact ok2
          refine ⟨L, us.zip qs, rfl, by rw [zip_fst lz]; exact SqL.of eLG, ?_, hqne, by rw [List.length_zip]; omega, fun N nN => ?_⟩
          · rw [zip_fst lz, show ((us.zip qs).map encVI) = ((us.zip qs).map (·.2)).map tupI by rw [List.map_map]; rfl, zip_snd lz]
            exact dL3.dp _ _ (lay_tups qs)
          have kN : Keep [] G (upd G N (.lst ((sortVI (us.zip qs)).map (·.1)))) := Keep.new nN
          have eN : (upd G N (.lst ((sortVI (us.zip qs)).map (·.1)))) N = some (.lst ((sortVI (us.zip qs)).map (·.1))) := upd_same
          have nNav := tG.not nN
          have dN : Dts (W3 :: Fd :: av) G ((sortVI (us.zip qs)).map (·.1)) ((sortL qs).map tupI) := by
            have all : ∀ b ∈ sortVI (us.zip qs), Dt (W3 :: Fd :: av) G b.1 (tupI b.2) := fun b hb => by
              have hb' := List.mem_mergeSort.mp hb
              obtain ⟨i, gi⟩ := List.mem_iff_getElem?.mp hb'
              obtain ⟨g1, g2⟩ := List.getElem?_zip_eq_some.mp gi
              obtain ⟨dd, gd, dx⟩ := dL3.getv i g1
              rw [List.getElem?_map, g2] at gd
              cases gd; exact dx
            have e2 : (sortL qs).map tupI = (sortVI (us.zip qs)).map (fun b => tupI b.2) := by
              rw [← zip_snd lz, ← sortVI_snd, zip_snd lz, List.map_map]; rfl
            rw [e2]
            generalize sortVI (us.zip qs) = bs at all
            induction bs with
            | nil => exact .nil
            | cons b bs ih => exact .cons (all b List.mem_cons_self) (ih fun z hz => all z (List.mem_cons_of_mem _ hz))
          refine ⟨show 2 ≤ sizeLine by decide, fun R nR => ?_⟩
          have k2 : Keep [] G (upd (upd G N (.lst ((sortVI (us.zip qs)).map (·.1)))) R (.tup [.ref q1, .ref N])) := kN.trans (Keep.new nR)
          have eN2 := st (o := .tup [.ref q1, .ref N]) nR eN
          have eR : (upd (upd G N (.lst ((sortVI (us.zip qs)).map (·.1)))) R (.tup [.ref q1, .ref N])) R = some (.tup [.ref q1, .ref N]) := upd_same
          have tG2 : Tr (W3 :: Fd :: av) (upd (upd G N (.lst ((sortVI (us.zip qs)).map (·.1)))) R (.tup [.ref q1, .ref N])) := (tG.upd).upd
          have dN2 := dN.keep (k2.of (av := W3 :: Fd :: av))
          have nRW : R ≠ W3 := fun z => by
            have := (tG.upd (p := N) (o := .lst ((sortVI (us.zip qs)).map (·.1)))).not nR
            exact this (by rw [z]; exact List.mem_cons_self)
          generalize upd (upd G N (.lst ((sortVI (us.zip qs)).map (·.1)))) R (.tup [.ref q1, .ref N]) = G2 at k2 eN2 eR tG2 dN2 ⊢
          have eW32 := k2 W3 _ eW3 List.not_mem_nil
          have eq12 := k2 q1 _ eq1 List.not_mem_nil
          have nq1 : q1 ≠ W3 := ne_of eq12 eW32 (fun z => by cases z)
          have kW : Keep (W3 :: Fd :: av) G2 (upd G2 W3 (.lst (rows.map (fun r => V.ref r.1) ++ [.ref R]))) := Keep.put List.mem_cons_self
          have nNW : N ≠ W3 := fun z => nNav (by rw [z]; exact List.mem_cons_self)
          refine ⟨rows.map (fun r => V.ref r.1), eW32, by rw [List.length_map, lrow]; exact Nat.lt_of_lt_of_le (by have := bJ.1; omega : i < 1000) (small1000 (by omega)), (kG.trans k2).upd nW3, tG2.upd, rows ++ [(R, q1, keyOf p1, .ref N)], ?_, by rw [upd_same, List.map_append]; rfl, fun r hr => ?_⟩
          · rw [List.map_append, hrk, List.take_add_one, gk1, List.map_append]; rfl
          · rcases List.mem_append.mp hr with hr | hr
            · obtain ⟨⟨p, r1, r2, r3, r4, r5⟩, n1, n2⟩ := hro r hr
              refine ⟨⟨p, r1, r2, (r3.keep k2.of).keep kW, ?_, ?_⟩, n1, n2⟩
              · rw [upd_ne n1]; exact k2 _ _ r4 List.not_mem_nil
              · rw [upd_ne n2]; exact k2 _ _ r5 List.not_mem_nil
            · rw [List.mem_singleton.mp hr]
              refine ⟨⟨p1, ok1, rfl, NexRow.keep ⟨N, _, qs, rfl, nNav, eN2, dN2, by rw [List.length_map]; unfold sortVI; rw [List.length_mergeSort, List.length_zip]; omega, ndq, hq⟩ kW, ?_, ?_⟩, nRW, nq1⟩
              · rw [upd_ne nRW]; exact eR
              · rw [upd_ne nq1]; exact eq12
        · obtain ⟨kG, tG, rows, hrk, eW3, hro⟩ := p
          rw [List.take_length] at hrk
          refine ⟨kG Fd _ eL List.not_mem_nil, ?_⟩
          have kF : Keep [Fd] G (upd G Fd (.dT kvs)) := Keep.put List.mem_cons_self
          have kF' : Keep (W3 :: Fd :: av) G (upd G Fd (.dT kvs)) := Keep.put (List.mem_cons_of_mem _ List.mem_cons_self)
          have eF2 : (upd G Fd (.dT kvs)) Fd = some (.dT kvs) := upd_same
          have kH2 : Keep [] H (upd G Fd (.dT kvs)) := fun b o e _ => by rw [upd_ne (ne_of_none e nF)]; exact kG b o (kHL b o e) List.not_mem_nil
          have tF2 : Tr (W3 :: Fd :: av) (upd G Fd (.dT kvs)) := tG.upd
          have eW32 : (upd G Fd (.dT kvs)) W3 = some (.lst (rows.map fun r => V.ref r.1)) := by rw [upd_ne nW3F]; exact eW3
          have hro2 : ∀ r ∈ rows, RowOk (W3 :: Fd :: av) (upd G Fd (.dT kvs)) n ps r := fun r hr => by
            obtain ⟨⟨p, r1, r2, r3, r4, r5⟩, _⟩ := hro r hr
            have eLf := kG Fd _ eL List.not_mem_nil
            refine ⟨p, r1, r2, r3.keep kF', ?_, ?_⟩
            · rw [upd_ne (ne_of r4 eLf (fun z => by cases z))]; exact r4
            · rw [upd_ne (ne_of r5 eLf (fun z => by cases z))]; exact r5
          generalize upd G Fd (.dT kvs) = G2 at kF kF' eF2 kH2 tF2 eW32 hro2 ⊢
          refine ⟨W3, rows, rfl, SqL.of eW32, fun r hr => ?_, by rw [hrk]; exact ndJ, fun R nR => ?_⟩
          · obtain ⟨p, r1, r2, r3, r4, r5⟩ := hro2 r hr
            exact ⟨r4, r5⟩
          · have lr : rows.length = kvs.length := by have := congrArg List.length hrk; rwa [List.length_map, List.length_map] at this
            have ek : ((rows.map fun r => (r.2.2.1, r.2.2.2)).map (·.1)) = kvs.map (·.1) := by rw [List.map_map]; exact hrk
            have tav : Tr av G2 := fun a m => tF2 a (List.mem_cons_of_mem _ (List.mem_cons_of_mem _ m))
            refine q _ R _ (kH2.trans (Keep.new nR)) (kH2.fr nR) tav.upd upd_same ⟨by rw [List.length_map, lr]; exact bJ.1, fun kv hkv => ?_, fun p ok => ?_⟩
            · obtain ⟨r, hr, rfl⟩ := List.mem_map.mp hkv
              obtain ⟨p, r1, r2, _⟩ := hro2 r hr
              exact ⟨p, r1, r2⟩
            · have hp := bes_key T bJ rJ ok
              obtain ⟨v0, hv0⟩ := Option.ne_none_iff_exists'.mp hp
              have hm : keyOf p ∈ rows.map (·.2.2.1) := by rw [hrk]; exact List.mem_map.mpr ⟨_, valV_mem hv0, rfl⟩
              obtain ⟨r, hr, er⟩ := List.mem_map.mp hm
              obtain ⟨p', r1, r2, r3, _⟩ := hro2 r hr
              have epp : p' = p := keyOf_inj (r2.symm.trans er)
              subst epp
              refine ⟨r.2.2.2, valV_at (by rw [ek]; exact ndJ) (List.mem_map.mpr ⟨r, hr, by rw [er]⟩), ?_⟩
              exact ((r3.less (fun a m => List.mem_cons_of_mem _ (List.mem_cons_of_mem _ m)) : NexRow av G2 n ps p' r.2.2.2).more nR).keep (Keep.put List.mem_cons_self)
end
end Rw

namespace Rw
open PySem PySem.Spec PyProof.Rows L2
theorem eqv_ints : ∀ p q : List Int, PyData.eqvAll (p.map .int) (q.map .int) = decide (p = q)
  | [], [] => by simp [PyData.eqvAll]
  | [], _ :: _ => by simp [PyData.eqvAll]
  | _ :: _, [] => by simp [PyData.eqvAll]
  | a :: p, b :: q => by
    rw [List.map_cons, List.map_cons]
    simp only [PyData.eqvAll, PyData.eqv, eqv_ints p q]
    rw [Bool.eq_iff_iff]
    simp
theorem eqv_tupI (p q : List Int) : PyData.eqv (tupI p) (tupI q) = decide (p = q) := by
  show PyData.eqv (.tuple (p.map .int)) (.tuple (q.map .int)) = _
  simp only [PyData.eqv, eqv_ints]
theorem tupI_shaped (p : List Int) : SeqAt.shaped (tupI p) = true := by
  refine shaped_of ?_ ?_
  · show PyData.canLay0 (.tuple (p.map .int)) = true
    simp only [PyData.canLay0, tupI_lay p]
  · have : PyData.depth (.tuple (p.map .int)) ≤ 64 := by simp [PyData.depth, tupI_depths p]
    exact this
theorem tupI_dp {K : PySem.W.Frag} {av : List Addr} {H : Hp} {v : V} {p : List Int} (h : Dt av H v (tupI p)) : L2.Dp K H v (tupI p) := by
  refine Dt.dp _ _ h ?_
  show PyData.canLay0 (.tuple (p.map .int)) = true
  simp only [PyData.canLay0, tupI_lay p]
end Rw

namespace Rw
open PySem PySem.Spec PyProof.Rows L2
theorem op_neDK {X : Cx} {K : PySem.W.Frag} (h : X.K = K) (hu : X.A.units + 64 < cLine) : OpR X (compareOp .NotEq) (rNeD K) := by subst h; exact op_neD hu
theorem key_data {G : Hp} {q : Addr} {p : Pl} (e : G q = some (.tup ((keyOf p).map kV))) : Dt [] G (.ref q) (tupI p) := by
  rw [keyOf_kV] at e
  exact .tup List.not_mem_nil e (Dts.ints p)
def pairD (q : Pl × Pl) : PyData := .tuple [tupI q.1, tupI q.2]
theorem pairD_at {av : List Addr} {H : Hp} {v : V} {q : Pl × Pl} (h : Dt av H v (pairD q)) : ∃ (a : Addr) (x y : V), v = .ref a ∧ a ∉ av ∧ H a = some (.tup [x, y]) ∧ Dt av H x (tupI q.1) ∧ Dt av H y (tupI q.2) := by
  unfold pairD at h
  cases h with
  | tup n e d =>
    cases d with
    | cons d1 d =>
      cases d with
      | cons d2 d => cases d; exact ⟨_, _, _, rfl, n, e, d1, d2⟩
/-! those beyond the first j of a level -/
structure Frs (n : Int) (ps : List Pi) (d : Int → Int → Int) (p b : Pl) (k : Int) (prs : List (Pl × Pl)) (j : Nat) (fr : List (Pl × Pl)) : Prop where
  nd : (fr.map (·.2)).Nodup
  par : ∀ q ∈ fr, q.1 ∈ (prs.take j).map (·.2) ∧ Adj ps q.2 q.1 ∧ Dp ps d p q.2 = Dp ps d p q.1 + 1 ∧ okP n ps q.2 ∧ Dp ps d p q.2 = k + 2 ∧ Dp ps d b q.2 = k + 1
  all : ∀ q ∈ prs.take j, ∀ v, Adj ps q.2 v → v ≠ q.1 → v ∈ fr.map (·.2)
theorem Frs.first {n : Int} {ps : List Pi} {d : Int → Int → Int} {p b : Pl} {k : Int} {prs : List (Pl × Pl)} : Frs n ps d p b k prs 0 [] :=
  ⟨List.nodup_nil, fun q z => absurd z List.not_mem_nil, fun q z => absurd z List.not_mem_nil⟩
theorem Frs.step {n : Int} {ps : List Pi} {d : Int → Int → Int} {p b : Pl} {k : Int} {prs fr : List (Pl × Pl)} {j : Nat} {bk z : Pl} {qs : List Pl} (T : Tm n ps d) (hp : okP n ps p) (hab : Adj ps p b) (k0 : 0 ≤ k) (L : Lev n ps d p b k prs) (F : Frs n ps d p b k prs j fr) (g : prs[j]? = some (bk, z)) (ndq : qs.Nodup) (hq : ∀ v, v ∈ qs ↔ Adj ps z v) :
    Frs n ps d p b k prs (j + 1) (fr ++ (qs.filter (fun v => decide (v ≠ bk))).map (fun v => (z, v))) := by
  have mg := List.mem_of_getElem? g
  obtain ⟨az, ez⟩ := L.par _ mg
  obtain ⟨okz, e1, e2⟩ := (L.all z).mp (List.mem_map.mpr ⟨_, mg, rfl⟩)
  have tk : prs.take (j + 1) = prs.take j ++ [(bk, z)] := by rw [List.take_add_one, g]; rfl
  have hj : j < prs.length := (List.getElem?_eq_some_iff.mp g).1
  have zn : z ∉ (prs.take j).map (·.2) := fun m => by
    obtain ⟨q, hq', eq⟩ := List.mem_map.mp m
    obtain ⟨i, gi⟩ := List.mem_iff_getElem?.mp hq'
    have hi : i < j := by have := (List.getElem?_eq_some_iff.mp gi).1; rw [List.length_take] at this; omega
    rw [List.getElem?_take_of_lt hi] at gi
    have nd := L.nd
    have w1 : (prs.map (·.2))[i]? = some z := by rw [List.getElem?_map, gi]; exact congrArg some eq
    have w2 : (prs.map (·.2))[j]? = some z := by rw [List.getElem?_map, g]; rfl
    have l1 := (List.getElem?_eq_some_iff.mp w1).1
    have l2 := (List.getElem?_eq_some_iff.mp w2).1
    have ne := (List.pairwise_iff_getElem.mp nd) i j l1 l2 hi
    rw [List.getElem?_eq_getElem l1] at w1
    rw [List.getElem?_eq_getElem l2] at w2
    exact ne ((Option.some.inj w1).trans (Option.some.inj w2).symm)
  have new : ∀ v ∈ qs.filter (fun v => decide (v ≠ bk)), okP n ps v ∧ Dp ps d p v = k + 2 ∧ Dp ps d b v = k + 1 ∧ Adj ps v z ∧ Dp ps d p v = Dp ps d p z + 1 := fun v hv => by
    obtain ⟨m1, m2⟩ := List.mem_filter.mp hv
    exact lev_on T hp hab k0 okz e1 e2 az ez ((hq v).mp m1) (of_decide_eq_true m2)
  refine ⟨?_, fun q hq' => ?_, fun q hq' v av ne => ?_⟩
  · rw [List.map_append, List.map_map]
    refine List.nodup_append.mpr ⟨F.nd, ?_, fun a ha c hc e => ?_⟩
    · rw [show ((fun q : Pl × Pl => q.2) ∘ fun v => (z, v)) = id from rfl, List.map_id]
      exact ndq.filter _
    · rw [show ((fun q : Pl × Pl => q.2) ∘ fun v => (z, v)) = id from rfl, List.map_id] at hc
      obtain ⟨q, hq', rfl⟩ := List.mem_map.mp ha
      obtain ⟨p1, p2, p3, p4, p5, p6⟩ := F.par q hq'
      obtain ⟨c1, c2, c3, c4, c5⟩ := new c hc
      subst e
      exact zn (by rw [Dp_uni T hp c1 c4 p2 c5 p3]; exact p1)
  · rw [tk, List.map_append]
    rcases List.mem_append.mp hq' with m | m
    · obtain ⟨p1, p2⟩ := F.par q m
      exact ⟨List.mem_append_left _ p1, p2⟩
    · obtain ⟨v, hv, rfl⟩ := List.mem_map.mp m
      obtain ⟨c1, c2, c3, c4, c5⟩ := new v hv
      exact ⟨List.mem_append_right _ (by simp), c4, c5, c1, c2, c3⟩
  · rw [List.map_append]
    rw [tk] at hq'
    rcases List.mem_append.mp hq' with m | m
    · exact List.mem_append_left _ (F.all q m v av ne)
    · rw [List.mem_singleton.mp m] at av ne
      exact List.mem_append_right _ (List.mem_map.mpr ⟨(z, v), List.mem_map.mpr ⟨v, List.mem_filter.mpr ⟨(hq v).mpr av, decide_eq_true ne⟩, rfl⟩, rfl⟩)
theorem Frs.done {n : Int} {ps : List Pi} {d : Int → Int → Int} {p b : Pl} {k : Int} {prs fr : List (Pl × Pl)} (T : Tm n ps d) (hp : okP n ps p) (hab : Adj ps p b) (k0 : 0 ≤ k) (L : Lev n ps d p b k prs) (F : Frs n ps d p b k prs prs.length fr) : Lev n ps d p b (k + 1) fr where
  nd := F.nd
  par := fun q hq => ⟨(F.par q hq).2.1, (F.par q hq).2.2.1⟩
  all := fun v => by
    constructor
    · intro m
      obtain ⟨q, hq, rfl⟩ := List.mem_map.mp m
      obtain ⟨_, _, _, h4, h5, h6⟩ := F.par q hq
      exact ⟨h4, by omega, h6⟩
    · rintro ⟨hv, e1, e2⟩
      obtain ⟨w, aw, okw, w1, w2⟩ := arm_down T hp hab hv k0 (by omega) e2
      obtain ⟨q, hq, eq⟩ := List.mem_map.mp ((L.all w).mpr ⟨okw, w1, w2⟩)
      have pq := L.par q hq
      refine F.all q (by rw [List.take_length]; exact hq) v (by rw [eq]; exact aw.symm) (fun z => ?_)
      rw [eq, w1, ← z, e1] at pq
      omega
theorem nex_few {av : List Addr} {G : Hp} {kvs : List (List Key × V)} {n : Int} {ps : List Pi} (nx : Nex av G kvs n ps) {zs : List Pl} (nd : zs.Nodup) (ok : ∀ z ∈ zs, okP n ps z) : zs.length ≤ 1000 := by
  have z := nodup_le (zs.map keyOf) (kvs.map (·.1)) ((List.Pairwise.map keyOf (fun a b (h : a ≠ b) z => h (keyOf_inj z)) nd)) (fun x hx => by
    obtain ⟨p, hp, rfl⟩ := List.mem_map.mp hx
    obtain ⟨v, e, _⟩ := nx.2.2 p (ok p hp)
    exact List.mem_map.mpr ⟨_, valV_mem e, rfl⟩)
  rw [List.length_map, List.length_map] at z
  exact Nat.le_trans z nx.1
section
variable {P : Program} {w : World} {K : PySem.W.Frag} {mg : Str → Option Value} {base : Heap}
abbrev sDeep : Stmt := topS 20
abbrev nDeep : List Str := ["_law_nexts_here", "_law_place", "_law_beside", "_law_last", "_law_far", "_law_fresh", "_law_back", "_law_here", "_law_on"]
theorem scDeep : FnScope nDeep ["_law_nexts_here", "_law_place", "_law_beside"] (defScope sDeep) := ⟨rfl, rfl, rfl, by decide +kernel, rfl, by decide +kernel, by decide +kernel⟩
def spDeep : Sp := fun vs H Q _ => ∃ (Fd : Addr) (kvs : List (List Key × V)) (v1 v2 : V) (n : Int) (ps : List Pi) (d : Int → Int → Int) (p b : Pl), vs = [.ref Fd, v1, v2] ∧ Rd H Fd (.dT kvs) ∧ Nex [] H kvs n ps ∧ Tm n ps d ∧ 0 ≤ n ∧ Dt [] H v1 (tupI p) ∧ Dt [] H v2 (tupI b) ∧ okP n ps p ∧ Adj ps p b ∧
  ∀ (H' : Hp), Keep [] H H' → Q (.int (armTo ps d p b n.toNat)) H'
theorem ok_deep (h : Has K mg "_law_deep" sDeep) (B : Blt mg) : Can P w K mg base "_law_deep" ["_law_nexts_here", "_law_place", "_law_beside"] 1 spDeep := by
  obtain ⟨f, fd, F, g⟩ := h
  refine ⟨f, fd, F.ok (k := 0) scDeep (fun vs H Q E h => ?_) (fun cdv A outer s H vs Q E hr h => ?_), g, F.kp, F.binds fun _ _ _ _ _ _ us hl => match us, hl with | [_, _, _], _ => rfl⟩
  · obtain ⟨Fd, kvs, v1, v2, n, ps, d, p, b, rfl, _⟩ := h
    rfl
  · obtain ⟨Fd, kvs, v1, v2, n, ps, d, p, b, rfl, rF, nx, T, n0, h1, h2, okp, hab, q⟩ := h
    refine ⟨_, pss_cons (ps_set (i := 3) scDeep.nd rfl (by first | exact Or.inl rfl | exact Or.inr rfl) (pe_lst (pa_cons (pe_tup (pa_cons (pv 1) (pa_cons (pv 2) pa_nil))) pa_nil)))
      (pss_cons (ps_set (i := 4) scDeep.nd rfl (by first | exact Or.inl rfl | exact Or.inr rfl) pe_int)
      (pss_cons (ps_while PassesOwn.never (pt_cmpR (op_neNilL hr.units0) (pv 3) (pe_lst pa_nil) (nomark _))
      (pss_cons (ps_set (i := 4) scDeep.nd rfl (by first | exact Or.inl rfl | exact Or.inr rfl) (pe_op op_add (pv 4) pe_int))
      (pss_cons (ps_set (i := 5) scDeep.nd rfl (by first | exact Or.inl rfl | exact Or.inr rfl) (pe_lst pa_nil))
      (pss_cons (ps_for PassesOwn.never rfl (pi_list (pv 3)) (pg_tup (by rfl) (pgs_cons (pg_name (i := 6) scDeep.nd rfl (by first | exact Or.inl rfl | exact Or.inr rfl)) (pgs_cons (pg_name (i := 7) scDeep.nd rfl (by first | exact Or.inl rfl | exact Or.inr rfl)) pgs_nil)))
      (pss_one (ps_expr (pe_bm PySem.F.plainAttrs_list PySem.F.slot_list_extend PySem.F.type_list_extend mt_extend (pv 5) (pa_cons (pe_lc (own := [("_law_on", 8)]) (g := gName 8) rfl scDeep.nd (pi_list (pe_dget (hu_of hr) (pv 0) (pv 7) (fun _ _ => rfl))) (blkOk_by (N := nDeep) (sc := defScope sDeep) (by decide +kernel)) (fun _ _ _ _ _ => (pg_name (i := 8) scDeep.nd rfl (by first | exact Or.inl rfl | exact Or.inr rfl))) (fun _ _ _ _ _ => pts_one (pt_cmpR (op_neDK (K := K) rfl hr.units) (pv 8) (pv 6) (nomark _))) (fun _ _ _ _ _ => (pe_tup (pa_cons (pv 7) (pa_cons (pv 8) pa_nil))))) pa_nil)))))
      (pss_one (ps_set (i := 3) scDeep.nd rfl (by first | exact Or.inl rfl | exact Or.inr rfl) (pv 5)))))))
      (pss_one (ps_ret (pv 4))))), ?_⟩
    refine ⟨v1, rfl, v2, rfl, show 2 ≤ sizeLine by decide, fun T0 nT0 => ⟨show 1 ≤ sizeLine by decide, fun L0 nL0 => ?_⟩⟩
    have k0 : Keep [] H (upd (upd H T0 (.tup [v1, v2])) L0 (.lst [.ref T0])) := (Keep.new nT0).trans (Keep.new nL0)
    have e0 : (upd (upd H T0 (.tup [v1, v2])) L0 (.lst [.ref T0])) L0 = some (.lst [.ref T0]) := upd_same
    have d0 : Dts [] (upd (upd H T0 (.tup [v1, v2])) L0 (.lst [.ref T0])) [.ref T0] ([(p, b)].map pairD) := .cons (.tup List.not_mem_nil (st nL0 upd_same) (.cons (h1.keep k0) (.cons (h2.keep k0) .nil))) .nil
    have ann := armTo_nn ps d p b n.toNat
    generalize upd (upd H T0 (.tup [v1, v2])) L0 (.lst [.ref T0]) = H1 at k0 e0 d0 ⊢
    refine ⟨fun m σ G => ∃ (L : Addr) (us : List V) (prs : List (Pl × Pl)) (k : Nat) (s5 s6 s7 : Option V), σ = [some (.ref Fd), some v1, some v2, some (.ref L), some (.int (k : Int)), s5, s6, s7, none] ∧ Keep [] H G ∧ G L = some (.lst us) ∧ Dts [] G us (prs.map pairD) ∧ Lev n ps d p b (k : Int) prs ∧ (k : Int) ≤ armTo ps d p b n.toNat ∧ m = (armTo ps d p b n.toNat - k).toNat,
      ⟨_, L0, _, [(p, b)], 0, none, none, none, rfl, k0, e0, d0, Lev.first T okp hab, ann, rfl⟩, fun m σ G p => ?_⟩
    obtain ⟨L, us, prs, k, s5, s6, s7, rfl, kG, eL, du, lv, hk, rfl⟩ := p
    refine ⟨.ref L, rfl, show 0 ≤ sizeLine by decide, fun E nE => ⟨L, E, us, rfl, rfl, SqL.of (st nE eL), SqL.of upd_same, _, rfl, ?_⟩⟩
    have kE : Keep [] G (upd G E (.lst [])) := Keep.new nE
    replace kG := kG.trans kE
    replace eL := kE L _ eL List.not_mem_nil
    replace du := du.keep kE
    generalize upd G E (.lst []) = G at kG eL du ⊢
    have iff := arm_iff T okp hab n0 k
    have lus : us.length = prs.length := by rw [du.len, List.length_map]
    cases hprs : prs with
    | nil =>
      have hu : us = [] := List.eq_nil_of_length_eq_zero (by rw [lus, hprs]; rfl)
      rw [hu]
      refine iteF ?_
      have e : armTo ps d p b n.toNat = (k : Int) := by
        have : ¬ ((k : Int) + 1 ≤ armTo ps d p b n.toNat) := fun z => by
          obtain ⟨w, hw⟩ := iff.mpr z
          have := (lv.all w).mpr hw
          rw [hprs] at this
          exact absurd this List.not_mem_nil
        omega
      refine ⟨.int (k : Int), rfl, ?_⟩
      have := q G kG
      rw [e] at this
      exact this
    | cons q0 rest =>
      have hu : (!us.isEmpty) = true := by
        cases us with
        | nil => rw [hprs] at lus; cases lus
        | cons _ _ => rfl
      show (if (!us.isEmpty) = true then _ else _)
      rw [if_pos hu]
      have hk1 : (k : Int) + 1 ≤ armTo ps d p b n.toNat := iff.mp ⟨q0.2, (lv.all q0.2).mp (by rw [hprs]; exact List.mem_map.mpr ⟨q0, List.mem_cons_self, rfl⟩)⟩
      clear hprs
      refine ⟨_, fun σ' J' h => h, ?_⟩
      refine ⟨.int (k : Int), rfl, (k : Int), 1, rfl, rfl, show 0 ≤ sizeLine by decide, fun Fr nFr => ?_⟩
      have kF : Keep [] G (upd G Fr (.lst [])) := Keep.new nFr
      have eFr : (upd G Fr (.lst [])) Fr = some (.lst []) := upd_same
      have nLF : L ≠ Fr := ne_of_none eL nFr
      have duF : Dts [Fr] (upd G Fr (.lst [])) us (prs.map pairD) := (du.more nFr).keep kF.of
      have fFr : H Fr = none := kG.fr nFr
      have eLF := kF L _ eL List.not_mem_nil
      have kHF := kG.trans kF
      generalize upd G Fr (.lst []) = G1 at kF eFr duF eLF kHF ⊢
      refine ⟨.ref L, rfl, L, rfl, ⟨_, SqL.of eLF⟩, ?_⟩
      refine for_list (K := K) (a := L) (xs := us) (fun j σ J => ∃ (s6 s7 : Option V) (fs : List V) (fr : List (Pl × Pl)), σ = [some (.ref Fd), some v1, some v2, some (.ref L), some (.int ((k : Int) + 1)), some (.ref Fr), s6, s7, none] ∧ Keep [Fr] G1 J ∧ Keep [] H J ∧ J Fr = some (.lst fs) ∧ Dts [Fr] J fs (fr.map pairD) ∧ Frs n ps d p b (k : Int) prs j fr)
        ⟨s6, s7, [], [], rfl, Keep.refl _ _, kHF, eFr, .nil, Frs.first⟩ (fun j σ J _ p => ?_) (fun j x σ J hx p => ?_) (fun σ J p => ?_)
      · obtain ⟨_, _, _, _, _, kJ, _⟩ := p
        exact SqL.of (kJ L _ eLF (fun m => nLF (List.mem_singleton.mp m)))
      · obtain ⟨s6, s7, fs, fr, rfl, kJ, kHJ, eJ, dJ, FJ⟩ := p
        obtain ⟨dd, gd, dx⟩ := (duF.keep kJ).getv j hx
        rw [List.getElem?_map] at gd
        obtain ⟨⟨bk, z⟩, gq, rfl⟩ := Option.map_eq_some_iff.mp gd
        have mq := List.mem_of_getElem? gq
        obtain ⟨okz, ez1, ez2⟩ := (lv.all z).mp (List.mem_map.mpr ⟨_, mq, rfl⟩)
        obtain ⟨Tq, vb, vz, rfl, nTq, eTq, dvb, dvz⟩ := pairD_at dx
        have dvb : Dt [Fr] J vb (tupI bk) := dvb
        have dvz : Dt [Fr] J vz (tupI z) := dvz
        obtain ⟨Tz, rfl, nTz, eTz⟩ := tupI_at dvz
        refine ⟨Tq, [vb, .ref Tz], rfl, SqT.of eTq, rfl, _, _, rfl, _, [], rfl, rfl, ?_⟩
        obtain ⟨vL, hval, Lz, uz, qs, rfl, _, eLz0, duz0, luz, ndq, hq⟩ := nx.2.2 z okz
        have eLz := kHJ Lz _ eLz0 List.not_mem_nil
        have rFJ : Rd J Fd (.dT kvs) := Rw.Rd.keep rF List.not_mem_nil kHJ
        have duz := duz0.keep kHJ
        have ndS : (sortL qs).Nodup := (List.mergeSort_perm qs leI).nodup_iff.mpr ndq
        have hqS : ∀ v, v ∈ sortL qs ↔ Adj ps z v := fun v => ((List.mergeSort_perm qs leI).mem_iff).trans (hq v)
        have lS : uz.length = (sortL qs).length := by rw [duz.len, List.length_map]
        refine ⟨.ref Fr, rfl, .inl ⟨rfl, _, SqL.of eJ⟩, .ref Fd, rfl, .ref Tz, rfl, Fd, .ref Lz, rfl, .inr ⟨kvs, keyOf z, Tz, rFJ, rfl, by rw [keyOf_kV]; exact eTz, hval.symm⟩, Lz, rfl, ⟨_, SqL.of eLz⟩, fun W nW => ?_⟩
        have nWF : W ≠ Fr := (ne_of_none eJ nW).symm
        refine lc_list (K := K) (a := Lz) (xs := uz) (fun i G' => Keep [] J G' ∧ ∃ ws : List V, G' W = some (.lst ws) ∧ ws.length ≤ i ∧ Dts [W, Fr] G' ws (((((sortL qs).take i).filter (fun v => decide (v ≠ bk))).map (fun v => (z, v))).map pairD))
          ⟨Keep.new nW, [], upd_same, Nat.le_refl _, .nil⟩ (fun i G' _ p => SqL.of (p.1 Lz _ eLz List.not_mem_nil)) (fun i x G' hx p => ?_) (fun G' p => ?_)
        · obtain ⟨kG', ws, eW, lw, dw⟩ := p
          obtain ⟨dd, gd, dxo⟩ := (duz.keep kG').getv i hx
          rw [List.getElem?_map] at gd
          obtain ⟨on, go, rfl⟩ := Option.map_eq_some_iff.mp gd
          have hi : i < uz.length := (List.getElem?_eq_some_iff.mp hx).1
          have tk : (sortL qs).take (i + 1) = (sortL qs).take i ++ [on] := by rw [List.take_add_one, go]; rfl
          refine ⟨rfl, x, rfl, vb, rfl, tupI on, tupI bk, tupI_dp dxo, tupI_dp (dvb.keep kG'.of), tupI_shaped _, tupI_shaped _, _, rfl, ?_⟩
          rw [eqv_tupI]
          by_cases c : on = bk
          · rw [decide_eq_true c]
            refine iteF ?_
            refine ⟨kG', ws, eW, by omega, ?_⟩
            rw [tk, List.filter_append, show [on].filter (fun v => decide (v ≠ bk)) = [] by simp [c], List.append_nil]
            exact dw
          · rw [decide_eq_false c]
            refine iteT ?_
            obtain ⟨To, rfl, _, eTo⟩ := tupI_at dxo
            refine ⟨.ref Tz, rfl, .ref To, rfl, show 2 ≤ sizeLine by decide, fun Tn nTn => ?_⟩
            have kn : Keep [] G' (upd G' Tn (.tup [.ref Tz, .ref To])) := Keep.new nTn
            have eWn := st (o := .tup [.ref Tz, .ref To]) nTn eW
            have eFG := kG' Fr _ eJ List.not_mem_nil
            have nTnW : Tn ∉ [W, Fr] := fun m => by
              rcases List.mem_cons.mp m with m | m
              · exact ne_of_none eW nTn m.symm
              · exact ne_of_none eFG nTn (List.mem_singleton.mp m).symm
            have dz1 : Dt [W, Fr] G' (.ref Tz) (tupI z) := .tup (fun m => by
              rcases List.mem_cons.mp m with m | m
              · exact ne_of_none eTz nW m
              · exact nTz m) (kG' Tz _ eTz List.not_mem_nil) (Dts.ints z)
            have do1 : Dt [W, Fr] G' (.ref To) (tupI on) := .tup (fun m => by
              rcases List.mem_cons.mp m with m | m
              · exact ne_of eTo eW (fun z => by cases z) m
              · exact ne_of eTo eFG (fun z => by cases z) (List.mem_singleton.mp m)) eTo (Dts.ints on)
            refine ⟨ws, eWn, Nat.lt_of_lt_of_le (by omega : ws.length < 1001) (show 1001 ≤ sizeLine by decide), (kG'.trans kn).upd nW, ws ++ [.ref Tn], upd_same, by rw [List.length_append]; show ws.length + 1 ≤ _; omega, ?_⟩
            rw [tk, List.filter_append, show [on].filter (fun v => decide (v ≠ bk)) = [on] by simp [c], List.map_append, List.map_append]
            exact ((dw.keep kn.of).app (.cons (.tup nTnW upd_same (.cons (dz1.keep kn.of) (.cons (do1.keep kn.of) .nil))) .nil)).keep (Keep.put List.mem_cons_self)
        · obtain ⟨kG', ws, eW, lw, dw⟩ := p
          rw [lS, List.take_length] at dw
          have F2 := FJ.step T okp hab (Int.natCast_nonneg k) lv gq ndS hqS
          have lfr := nex_few nx F2.nd (fun z hz => by obtain ⟨q, hq, rfl⟩ := List.mem_map.mp hz; exact (F2.par q hq).2.2.2.1)
          have l1 : fs.length = fr.length := by rw [dJ.len, List.length_map]
          have l2 : ws.length = ((sortL qs).filter (fun v => decide (v ≠ bk))).length := by rw [dw.len, List.length_map, List.length_map]
          rw [List.length_map, List.length_append, List.length_map] at lfr
          have eF2 := kG' Fr _ eJ List.not_mem_nil
          refine ⟨Fr, W, fs, ws, rfl, rfl, eF2, eW, Nat.le_trans (by omega : fs.length + ws.length ≤ 1000) (small1000 (by decide)), ?_⟩
          refine ⟨_, _, fs ++ ws, _, rfl, (kJ.trans kG'.of).trans (Keep.put List.mem_cons_self), (kHJ.trans kG').upd fFr, upd_same, ?_, F2⟩
          rw [List.map_append]
          exact ((dJ.keep kG'.of).app (dw.less (fun a m => List.mem_cons_of_mem _ m))).keep (Keep.put List.mem_cons_self)
      · obtain ⟨s6, s7, fs, fr, rfl, kJ, kHJ, eJ, dJ, FJ⟩ := p
        rw [lus] at FJ
        refine ⟨.ref Fr, rfl, ?_⟩
        exact ⟨_, by omega, Fr, fs, fr, k + 1, _, _, _, rfl, kHJ, eJ, dJ.less (fun a m => nomatch m), FJ.done T okp hab (Int.natCast_nonneg k) lv, by omega, rfl⟩
end
end Rw

namespace Rw
open PySem PySem.Spec PyProof.Rows L2
section
variable {P : Program} {w : World} {K : PySem.W.Frag} {mg : Str → Option Value} {base : Heap}
abbrev sArm : Stmt := topS 11
abbrev nArm : List Str := ["plan", "place", "beside", "deepest", "room", "gap"]
theorem scArm : FnScope nArm ["plan", "place", "beside"] (defScope sArm) := ⟨rfl, rfl, rfl, by decide +kernel, rfl, by decide +kernel, by decide +kernel⟩
def spArm (C : Addr) : Sp := fun vs H Q _ => ∃ (a : Addr) (o1 o2 : V) (n : Int) (ps : List Pi) (d : Int → Int → Int) (p b : Pl), vs = [.ref a, o1, o2] ∧ PlanAt C [] H a n ps d ∧ Tm n ps d ∧ 0 ≤ n ∧ n ≤ 16 ∧ Dt [] H o1 (tupI p) ∧ Dt [] H o2 (tupI b) ∧ okP n ps p ∧ okP n ps b ∧
  ∀ H' : Hp, Keep [] H H' → Q (.int (armTo ps d p b n.toNat)) H'
theorem ok_arm {C : Addr} (h : Has K mg "arm_depth" sArm) (B : Blt mg) (X : PlanTxt K C) (CG : Can P w K mg base "gap_of" ["plan", "one", "other"] 3 (spGap C)) : Can P w K mg base "arm_depth" ["plan", "place", "beside"] 4 (spArm C) := by
  obtain ⟨f, fd, F, g⟩ := h
  refine ⟨f, fd, F.ok (k := 3) scArm (fun vs H Q E h => ?_) (fun cdv A outer s H vs Q E hr h => ?_), g, F.kp, F.binds fun _ _ _ _ _ _ us hl => match us, hl with | [_, _, _], _ => rfl⟩
  · obtain ⟨a, o1, o2, n, ps, d, p, b, rfl, _⟩ := h
    rfl
  · obtain ⟨a, o1, o2, n, ps, d, p, b, rfl, pl, T, n0, n16, h1, h2, okp, okb, k⟩ := h
    refine ⟨_, pss_cons (ps_set (i := 3) scArm.nd rfl (by first | exact Or.inl rfl | exact Or.inr rfl) pe_int)
      (pss_cons (ps_for PassesOwn.never rfl (pi_range1 (by rfl) B.range_ (pa_cons (pe_callB call_len_seq (by rfl) B.len_ PySem.boot_len (pa_cons (pe_fld (pv 0) rfl) pa_nil)) pa_nil)) (pg_name (i := 4) scArm.nd rfl (by first | exact Or.inl rfl | exact Or.inr rfl))
      (pss_cons (ps_set (i := 5) scArm.nd rfl (by first | exact Or.inl rfl | exact Or.inr rfl) (pe_can CG (hr.mono (by decide)) (by rfl) (pa_cons (pv 0) (pa_cons (pv 1) (pa_cons (pe_tup (pa_cons (pv 4) pa_nil)) pa_nil)))))
      (pss_one (ps_if (pt_cmpR op_lt (pe_can CG (hr.mono (by decide)) (by rfl) (pa_cons (pv 0) (pa_cons (pv 2) (pa_cons (pe_tup (pa_cons (pv 4) pa_nil)) pa_nil)))) (pv 5) (nomark _)) (pss_one (ps_set (i := 3) scArm.nd rfl (by first | exact Or.inl rfl | exact Or.inr rfl) (pe_callB (call_max2 rfl) (by rfl) B.max_ boot_max (pa_cons (pv 3) (pa_cons (pv 5) pa_nil))))) pss_nil))))
      (pss_one (ps_ret (pv 3)))), ?_⟩
    have pl0 := pl
    obtain ⟨dx, hb, pp, dl, gl, tl, xp, ds, gs, ws, a1, a2, a3, a4, a5, a6, a7, a8, a9, b1, _⟩ := pl0
    have ld : (((ds.map V.ref).length : Nat) : Int) = n := by rw [List.length_map]; exact b1
    refine ⟨.ref a, rfl, a, C, dx, _, .ref dl, rfl, a2, X.cl, X.nD, pf_doors .., dl, _, rfl, .inl (SqL.of a9), _, rfl, by rw [ld]; omega, by rw [ld]; omega, ?_⟩
    rw [ld]
    refine for_range (lo := 0) (n := n.toNat)
      (fun i σ J => ∃ s4 s5, σ = [some (.ref a), some o1, some o2, some (.int (armTo ps d p b i)), s4, s5] ∧ Keep [] H J) ⟨none, none, rfl, Keep.refl _ _⟩ (fun i σ J hi pp0 => ?_) (fun σ J pp0 => ?_)
    · obtain ⟨s4, s5, rfl, kJ⟩ := pp0
      have i0 : (0 + (i : Int)) = (i : Int) := by omega
      have okr : okP n ps [(i : Int)] := ⟨by omega, by omega⟩
      refine ⟨.ref a, rfl, o1, rfl, .int (0 + (i : Int)), rfl, show 1 ≤ sizeLine by decide, fun R nR => ?_⟩
      rw [i0]
      have kR : Keep [] J (upd J R (.tup [.int (i : Int)])) := Keep.new nR
      have dR : Dt [] (upd J R (.tup [.int (i : Int)])) (.ref R) (tupI [(i : Int)]) := .tup List.not_mem_nil upd_same (Dts.ints [(i : Int)])
      refine ⟨a, o1, .ref R, n, ps, d, p, [(i : Int)], rfl, (pl.keep kJ).keep kR, T, (h1.keep kJ).keep kR, dR, okp, okr, fun J2 k2 => ?_⟩
      have k02 := kJ.trans (kR.trans k2)
      refine ⟨.ref a, rfl, o2, rfl, .int (i : Int), rfl, show 1 ≤ sizeLine by decide, fun R2 nR2 => ?_⟩
      have kR2 : Keep [] J2 (upd J2 R2 (.tup [.int (i : Int)])) := Keep.new nR2
      have dR2 : Dt [] (upd J2 R2 (.tup [.int (i : Int)])) (.ref R2) (tupI [(i : Int)]) := .tup List.not_mem_nil upd_same (Dts.ints [(i : Int)])
      refine ⟨a, o2, .ref R2, n, ps, d, b, [(i : Int)], rfl, (pl.keep k02).keep kR2, T, (h2.keep k02).keep kR2, dR2, okb, okr, fun J3 k3 => ?_⟩
      have k03 := k02.trans (kR2.trans k3)
      refine ⟨_, rfl, _, _, rfl, rfl, _, rfl, ?_⟩
      by_cases c : Dp ps d b [(i : Int)] < Dp ps d p [(i : Int)]
      · rw [decide_eq_true c]
        refine iteT ?_
        refine ⟨_, rfl, _, rfl, _, _, rfl, ?_⟩
        refine ⟨some (.int (i : Int)), some (.int (Dp ps d p [(i : Int)])), ?_, k03⟩
        rw [show armTo ps d p b (i + 1) = if Dp ps d p [(i : Int)] > armTo ps d p b i then Dp ps d p [(i : Int)] else armTo ps d p b i by rw [armTo, if_pos c]]
        rfl
      · rw [decide_eq_false c]
        refine iteF ?_
        refine ⟨some (.int (i : Int)), some (.int (Dp ps d p [(i : Int)])), ?_, k03⟩
        rw [show armTo ps d p b (i + 1) = armTo ps d p b i by rw [armTo, if_neg c]]
        rfl
    · obtain ⟨s4, s5, rfl, kJ⟩ := pp0
      exact ⟨_, rfl, k J kJ⟩
end
end Rw

namespace Rw
open PySem PySem.Spec PyProof.Rows L2
theorem pi_at2 {av : List Addr} {H : Hp} {xp : List V} {ps : List Pi} (hs : Dts av H xp (ps.map Pi.dat)) {i : Int} (h0 : 0 ≤ i) (h1 : i < ps.length) :
    ∃ (pa T1 T2 : Addr), atI xp i = some (.ref pa) ∧ H pa = some (.tup [.int (pr ps i).x, .int (pr ps i).y, .int (pr ps i).l, .ref T1, .ref T2]) ∧ pa ∉ av ∧ Dt av H (.ref T1) (.tuple ((pr ps i).na.map prD)) ∧ Dt av H (.ref T2) (.tuple ((pr ps i).fl.map prD)) := by
  obtain ⟨v, ev, dv⟩ := hs.get i.toNat (d := (pr ps i).dat) (by rw [List.getElem?_map, (pr_mem h0 h1).2]; rfl)
  have ep : (pr ps i).dat = .tuple [.int (pr ps i).x, .int (pr ps i).y, .int (pr ps i).l, .tuple ((pr ps i).na.map prD), .tuple ((pr ps i).fl.map prD)] := rfl
  rw [ep] at dv
  cases dv with
  | tup na ea da =>
    cases da with
    | cons d1 da => cases d1; cases da with
      | cons d2 da => cases d2; cases da with
        | cons d3 da => cases d3; cases da with
          | cons d4 da => cases da with
            | cons d5 da =>
              cases da
              obtain ⟨T1, _, rfl, _, _, _⟩ := tup_at d4
              obtain ⟨T2, _, rfl, _, _, _⟩ := tup_at d5
              exact ⟨_, T1, T2, atI_of h0 ev, ea, na, d4, d5⟩
theorem house_new {av : List Addr} {J : Hp} {n : Int} {ps : List Pi} {v : V} {Q : VK} (tr : Tr av J) (dp : Dt av J v (.tuple (ps.map Pi.dat))) (k : ∀ J' r, Keep [] J J' → Tr av J' → Dt av J' (.ref r) (houseD n (ps.map Pi.dat)) → Q (.ref r) J') : [V.int n, v].length ≤ sizeLine ∧ ∀ p, J p = none → Q (.ref p) (upd J p (.tup [.int n, v])) :=
  tup_new tr (.cons (.int n) (.cons dp .nil)) (show 2 ≤ 1000 by decide) (fun J' r k' t' _ d => k J' r k' t' d)
section
variable {P : Program} {w : World} {K : PySem.W.Frag} {mg : Str → Option Value} {base : Heap}
abbrev sHung : Stmt := topS 21
abbrev nHung : List Str := ["_law_deck", "_law_house_here", "_law_pipe", "_law_one", "_law_other", "_law_size", "_law_narrow", "_law_none", "_law_hung_here"]
theorem scHung : FnScope nHung ["_law_deck", "_law_house_here"] (defScope sHung) := ⟨rfl, rfl, rfl, by decide +kernel, rfl, by decide +kernel, by decide +kernel⟩
def spHung : Sp := fun vs H Q _ => ∃ (D G : Addr) (h : V) (b n : Int) (ps : List Pi) (av : List Addr), vs = [.ref D, h] ∧ Dt av H h (houseD n (ps.map Pi.dat)) ∧ HouseOk n ps ∧ 2 ≤ n ∧ Dk H D G b ∧ b ≤ 600000000 ∧ Tr av H ∧ D ∈ av ∧ G ∈ av ∧
  ∀ H' (r : Addr) (i : Nat) (p' : Pi), Keep [D, G] H H' → Dk H' D G (b + 10) → Tr av H' → i < ps.length → p'.x = (pr ps (i : Int)).x → p'.y = (pr ps (i : Int)).y → p'.l = (pr ps (i : Int)).l → Fit p'.l p'.na p'.fl → Dt av H' (.ref r) (houseD n ((ps.take i ++ [p'] ++ ps.drop (i + 1)).map Pi.dat)) → Q (.ref r) H'
theorem ok_hung (h : Has K mg "_law_hung" sHung) (B : Blt mg) (CN : Can P w K mg base "_law_next" ["_law_deck", "_law_many"] 1 spNx) : Can P w K mg base "_law_hung" ["_law_deck", "_law_house_here"] 2 spHung := by
  obtain ⟨f, fd, F, g⟩ := h
  refine ⟨f, fd, F.ok (k := 1) scHung (fun vs H Q E h => ?_) (fun cdv A outer s H vs Q E hr h => ?_), g, F.kp, F.binds fun _ _ _ _ _ _ us hl => match us, hl with | [_, _], _ => rfl⟩
  · obtain ⟨D, G, h, b, n, ps, av, rfl, _⟩ := h
    rfl
  · obtain ⟨D, G, h, b, n, ps, av, rfl, dh, hk, n2, dk, hb, tr, mD, mG, q⟩ := h
    refine ⟨_, pss_cons (ps_set (i := 2) scHung.nd rfl (by first | exact Or.inl rfl | exact Or.inr rfl) (pe_can CN (hr.mono (by decide)) (by rfl) (pa_cons (pv 0) (pa_cons (pe_callB call_len_seq (by rfl) B.len_ PySem.boot_len (pa_cons (pe_ix ix_tup (pv 1) pe_int (fun _ _ => rfl)) pa_nil)) pa_nil))))
      (pss_cons (ps_asg (pe_ix ix_tup (pe_ix ix_tup (pv 1) pe_int (fun _ _ => rfl)) (pv 2) (fun _ _ => rfl)) (pg_tup (by rfl) (pgs_cons (pg_name (i := 3) scHung.nd rfl (by first | exact Or.inl rfl | exact Or.inr rfl)) (pgs_cons (pg_name (i := 4) scHung.nd rfl (by first | exact Or.inl rfl | exact Or.inr rfl)) (pgs_cons (pg_name (i := 5) scHung.nd rfl (by first | exact Or.inl rfl | exact Or.inr rfl)) (pgs_cons (pg_name (i := 6) scHung.nd rfl (by first | exact Or.inl rfl | exact Or.inr rfl)) (pgs_cons (pg_name (i := 7) scHung.nd rfl (by first | exact Or.inl rfl | exact Or.inr rfl)) pgs_nil)))))))
      (pss_cons (ps_set (i := 8) scHung.nd rfl (by first | exact Or.inl rfl | exact Or.inr rfl) (pe_tup (pa_cons (pv 3) (pa_cons (pv 4) (pa_cons (pv 5) (pa_cons (pv 6) (pa_cons (pe_tup (pa_cons (pe_tup (pa_cons (pe_can CN (hr.mono (by decide)) (by rfl) (pa_cons (pv 0) (pa_cons (pv 5) pa_nil))) (pa_cons (pe_ix ix_list (pe_lst (pa_cons pe_int (pa_cons (pe_un un_neg pe_int) pa_nil))) (pe_can CN (hr.mono (by decide)) (by rfl) (pa_cons (pv 0) (pa_cons pe_int pa_nil))) (fun _ _ => rfl)) pa_nil))) pa_nil)) pa_nil)))))))
      (pss_one (ps_ret (pe_tup (pa_cons (pe_ix ix_tup (pv 1) pe_int (fun _ _ => rfl)) (pa_cons (pe_op op_catA (pe_op op_catA (pe_slice sl_tupA (pe_ix ix_tup (pv 1) pe_int (fun _ _ => rfl)) po_none (po_some (pv 2))) (pe_tup (pa_cons (pv 8) pa_nil))) (pe_slice sl_tupA (pe_ix ix_tup (pv 1) pe_int (fun _ _ => rfl)) (po_some (pe_op op_add (pv 2) pe_int)) po_none)) pa_nil))))))), ?_⟩
    have ln := hk.len
    have n16 := hk.n2
    obtain ⟨ah, ap, xp, rfl, nah, eah, nap, eap, dxp⟩ := house_parts dh
    have xl : xp.length = ps.length := by rw [dxp.len, List.length_map]
    have sub : ∀ a ∈ [D, G], a ∈ av := two_in mD mG
    refine ⟨.ref D, rfl, .ref ah, rfl, ah, _, 1, .ref ap, rfl, rfl, SqT.of eah, atI_nat (j := 1) rfl, ap, xp, rfl, .inr (SqT.of eap), D, G, b, _, rfl, by omega, by omega, dk, by omega, fun H1 i kp1 dk1 i0 i1 => ?_⟩
    have S1 : Sg av D G H H1 (b + 1) := ⟨kp1, dk1, tr.kp kp1 dk1.tr⟩
    replace dh := dh.keep (kp1.mono sub)
    obtain ⟨ah', ap', xp', e1, nah, eah, nap, eap, dxp⟩ := house_parts dh
    cases e1
    have xl' : xp'.length = ps.length := by rw [dxp.len, List.length_map]
    have i1' : i < ps.length := by omega
    obtain ⟨pa, T1, T2, gpa, epa, npa, d1, d2⟩ := pi_at2 dxp i0 i1'
    have lok := (hk.ok _ (pr_mem i0 i1').1).fit
    refine ⟨.ref ah, rfl, ah, _, 1, .ref ap', rfl, rfl, SqT.of eah, atI_nat (j := 1) rfl, .int i, rfl, ap', xp', i, .ref pa, rfl, rfl, SqT.of eap, gpa, pa, _, rfl, SqT.of epa, rfl, _, _, rfl, _, _, rfl, _, _, rfl, _, _, rfl, _, [], rfl, rfl, ?_⟩
    refine ⟨.int (pr ps i).x, rfl, .int (pr ps i).y, rfl, .int (pr ps i).l, rfl, .ref T1, rfl, .ref D, rfl, .int (pr ps i).l, rfl, D, G, _, _, rfl, lok.l1, by have := lok.l2; omega, S1.dk, by omega, fun H2 a kp2 dk2 a0 a1 => ⟨1, rfl, show 2 ≤ sizeLine by decide, fun L nL => ?_⟩⟩
    have S2 := (S1.go kp2 dk2).new (o := .lst [.int 1, .int (-1)]) nL
    have zL := (S1.go kp2 dk2).dk.nes nL
    have eL : (upd H2 L (.lst [.int 1, .int (-1)])) L = some (.lst ([1, -1].map V.int)) := upd_same
    refine ⟨.ref D, rfl, D, G, _, 2, rfl, by decide, by decide, S2.dk, by omega, fun H3 w kp3 dk3 w0 w1 => ?_⟩
    obtain ⟨wy, ewy, hwy⟩ := pick_in (P := fun x => x = 1 ∨ x = -1) (xs := [1, -1]) (by intro x hx; simpa using hx) w0 w1
    have S3 := S2.go kp3 dk3
    refine ⟨L, _, w, _, rfl, rfl, SqL.of (kp3 L _ eL (not2 zL)), ewy, ?_⟩
    have kA : Keep av H1 H3 := ((kp2.trans (Keep.new nL)).trans kp3).mono sub
    replace dh := dh.keep kA
    replace d1 := d1.keep kA
    refine ⟨show 2 ≤ sizeLine by decide, fun r4 n_r4 => ?_⟩
    obtain ⟨k4, t4, e4⟩ := tup_facts S3.tr (.cons (.int a) (.cons (.int wy) .nil)) n_r4
    generalize upd _ r4 (.tup _) = H4 at k4 t4 e4 ⊢
    refine ⟨show 1 ≤ sizeLine by decide, fun r5 n_r5 => ?_⟩
    obtain ⟨k5, t5, e5⟩ := tup_facts t4 (.cons e4 .nil) n_r5
    generalize upd _ r5 (.tup _) = H5 at k5 t5 e5 ⊢
    refine ⟨show 5 ≤ sizeLine by decide, fun r6 n_r6 => ?_⟩
    obtain ⟨k6, t6, e6⟩ := tup_facts t5 (.cons (.int (pr ps i).x) (.cons (.int (pr ps i).y) (.cons (.int (pr ps i).l) (.cons ((d1.keep k4.of).keep k5.of) (.cons e5 .nil))))) n_r6
    generalize upd _ r6 (.tup _) = H6 at k6 t6 e6 ⊢
    have k36 : Keep [] H3 H6 := k4.trans (k5.trans k6)
    have S6 := S3.kp k36
    replace dh := dh.keep k36.of
    obtain ⟨ah', ap2, xp2, e1, nah, eah, nap, eap, dxp⟩ := house_parts dh
    cases e1
    have dp2 : Dt av H6 (.ref ap2) (.tuple (ps.map Pi.dat)) := .tup nap eap dxp
    refine ⟨.ref ah, rfl, ah, _, 0, .int n, rfl, rfl, SqT.of eah, atI_nat (j := 0) rfl, .ref ah, rfl, ah, _, 1, .ref ap2, rfl, rfl, SqT.of eah, atI_nat (j := 1) rfl, .int i, rfl, i, rfl, front_data dp2 t6 i0 (fun H7 r7 k7 t7 e7 => ?_)⟩
    refine ⟨.ref r6, rfl, show 1 ≤ sizeLine by decide, fun r8 n_r8 => ?_⟩
    obtain ⟨k8, t8, e8⟩ := tup_facts t7 (.cons (e6.keep k7.of) .nil) n_r8
    generalize upd _ r8 (.tup _) = H8 at k8 t8 e8 ⊢
    refine cat_data (e7.keep k8.of) e8 t8 (by rw [List.length_take, List.length_map]; show min _ _ + 1 ≤ 1000; omega) (fun H9 r9 k9 t9 e9 => ?_)
    have k69 : Keep [] H6 H9 := k7.trans (k8.trans k9)
    refine ⟨.ref ah, rfl, ah, _, 1, .ref ap2, rfl, rfl, SqT.of (k69 ah _ eah List.not_mem_nil), atI_nat (j := 1) rfl, .int i, rfl, i, 1, rfl, rfl, i + 1, rfl, ?_⟩
    dsimp only [tNoPart]
    refine rear_data (dp2.keep k69.of) t9 (by omega) (fun H10 r10 k10 t10 e10 => ?_)
    refine cat_data (e9.keep k10.of) e10 t10 (by rw [List.length_append, List.length_take, List.length_map, List.length_drop, List.length_map]; show min _ _ + 1 + _ ≤ 1000; omega) (fun H11 r11 k11 t11 e11 => ?_)
    have el : (ps.map Pi.dat).take i.toNat ++ [pipeD (pr ps i).x (pr ps i).y (pr ps i).l (pr ps i).na [(a, wy)]] ++ (ps.map Pi.dat).drop (i + 1).toNat = (ps.take i.toNat ++ [(⟨(pr ps i).x, (pr ps i).y, (pr ps i).l, (pr ps i).na, [(a, wy)]⟩ : Pi)] ++ ps.drop (i.toNat + 1)).map Pi.dat := by
      rw [List.map_append, List.map_append, List.map_take, List.map_drop, show (i + 1).toNat = i.toNat + 1 by omega]; rfl
    have e11' : Dt av H11 (.ref r11) (.tuple ((ps.take i.toNat ++ [(⟨(pr ps i).x, (pr ps i).y, (pr ps i).l, (pr ps i).na, [(a, wy)]⟩ : Pi)] ++ ps.drop (i.toNat + 1)).map Pi.dat)) := by rw [← el]; exact e11
    refine house_new t11 e11' (fun H12 r12 k12 t12 e12 => ?_)
    have ei : ((i.toNat : Nat) : Int) = i := by omega
    have S12 := S6.kp (k69.trans (k10.trans (k11.trans k12)))
    exact q H12 r12 i.toNat ⟨(pr ps i).x, (pr ps i).y, (pr ps i).l, (pr ps i).na, [(a, wy)]⟩ S12.k (S12.dk.mono (by omega)) t12 (by omega) (by rw [ei]) (by rw [ei]) (by rw [ei])
      ⟨lok.l1, lok.l2, lok.nup, lok.nin, List.pairwise_singleton _ _, fun z hz => by rw [List.mem_singleton.mp hz]; exact ⟨a0, by show a ≤ (pr ps i).l - 1; omega, hwy⟩, lok.nle, by simp⟩ e12
end
end Rw

namespace Rw
open PySem PySem.Spec PyProof.Rows L2
def longL (n : Int) (ps : List Pi) (d : Int → Int → Int) (ln : Int) (p : Pl) : List Pl := (sortL (besideL ps p)).filter fun b => decide (ln ≤ armTo ps d p b n.toNat)
theorem sorted_filter (P : List Int → Bool) (l : List (List Int)) : (sortL l).filter P = sortL (l.filter P) := by
  have p1 : ((sortL l).filter P).Perm (l.filter P) := (List.mergeSort_perm l leI).filter P
  have p2 : (sortL (l.filter P)).Perm (l.filter P) := List.mergeSort_perm _ _
  exact List.Perm.eq_of_pairwise (fun a b _ _ h1 h2 => leI_anti a b h1 h2) ((List.pairwise_mergeSort leI_trans leI_total l).filter P) (List.pairwise_mergeSort leI_trans leI_total _) (p1.trans p2.symm)
section
variable {P : Program} {w : World} {K : PySem.W.Frag} {mg : Str → Option Value} {base : Heap}
abbrev sLArm : Stmt := topS 12
abbrev nLArm : List Str := ["house", "length", "place", "plan", "beside"]
theorem scLArm : FnScope nLArm ["house", "length", "place"] (defScope sLArm) := ⟨rfl, rfl, rfl, by decide +kernel, rfl, by decide +kernel, by decide +kernel⟩
def spLArm : Sp := fun vs H Q _ => ∃ (h v : V) (n ln : Int) (ps : List Pi) (d : Int → Int → Int) (p : Pl) (av : List Addr), vs = [h, .int ln, v] ∧ Dt av H h (houseD n (ps.map Pi.dat)) ∧ HouseOk n ps ∧ Tm n ps d ∧ Dt [] H v (tupI p) ∧ okP n ps p ∧ Tr av H ∧
  ∀ (H' : Hp) (r : Addr), Keep [] H H' → Tr av H' → Dt av H' (.ref r) (.tuple ((longL n ps d ln p).map tupI)) → Q (.ref r) H'
theorem ok_lArm {C : Addr} (h : Has K mg "long_arms" sLArm) (B : Blt mg) (CP : CanMk P w K mg base "Plan" C ["self", "house"] 2 (spInit C)) (CB : Can P w K mg base "places_beside" ["plan", "place"] 2 (spPB C)) (CA : Can P w K mg base "arm_depth" ["plan", "place", "beside"] 4 (spArm C)) : Can P w K mg base "long_arms" ["house", "length", "place"] 5 spLArm := by
  obtain ⟨f, fd, F, g⟩ := h
  refine ⟨f, fd, F.ok (k := 4) scLArm (fun vs H Q E h => ?_) (fun cdv A outer s H vs Q E hr h => ?_), g, F.kp, F.binds fun _ _ _ _ _ _ us hl => match us, hl with | [_, _, _], _ => rfl⟩
  · obtain ⟨h, v, n, ln, ps, d, p, av, rfl, _⟩ := h
    rfl
  · obtain ⟨h, v, n, ln, ps, d, p, av, rfl, hh, hk, T, hv, okp, tr, q⟩ := h
    refine ⟨_, pss_cons (ps_set (i := 3) scLArm.nd rfl (by first | exact Or.inl rfl | exact Or.inr rfl) (pe_mk CP (hr.mono (by decide)) (by rfl) (pa_cons (pv 0) pa_nil)))
      (pss_one (ps_ret (pe_callTy call_tuple_of (by rfl) B.tuple_ boot_tuple (pa_cons (pe_lc (own := [("beside", 4)]) (g := gName 4) rfl scLArm.nd (pi_tup (pe_can CB (hr.mono (by decide)) (by rfl) (pa_cons (pv 3) (pa_cons (pv 2) pa_nil)))) (blkOk_by (N := nLArm) (sc := defScope sLArm) (by decide +kernel)) (fun _ _ _ _ _ => (pg_name (i := 4) scLArm.nd rfl (by first | exact Or.inl rfl | exact Or.inr rfl))) (fun _ _ _ _ _ => pts_one (pt_cmpR op_ge (pe_can CA (hr.mono (by decide)) (by rfl) (pa_cons (pv 3) (pa_cons (pv 2) (pa_cons (pv 4) pa_nil)))) (pv 1) (nomark _))) (fun _ _ _ _ _ => (pv 4))) pa_nil)))), ?_⟩
    refine ⟨h, rfl, fun x dx nx ndx ne => plan_made (C := C) hh hk T tr nx ndx ne (fun H1 k1 t1 pl0 => ?_)⟩
    have pl : PlanAt C [] H1 x n ps d := pl0.less (fun _ m => nomatch m)
    refine ⟨rfl, .ref x, rfl, v, rfl, x, v, n, ps, d, p, av, rfl, pl, hk, hv.keep k1, okp, t1, fun H2 Tb us k2 t2 nTb eTb dus => ?_⟩
    have n16 := hk.n2
    have n1 := hk.n1
    refine ⟨Tb, rfl, ⟨_, SqT.of eTb⟩, fun W nW => ?_⟩
    have duW := dus.more nW
    have lus : us.length = (sortL (besideL ps p)).length := by rw [dus.len, List.length_map]
    have few : us.length ≤ 1000 := by
      rw [lus]; unfold sortL; rw [List.length_mergeSort]
      rcases ok_cases okp with ⟨r, rfl, r0, r1⟩ | ⟨i, a, rfl, _⟩
      · show ((doorsTo ps r ps.length).map (doorNext ps)).length ≤ 1000
        rw [List.length_map]
        have : ∀ m : Nat, (doorsTo ps r m).length ≤ 2 * m := by
          intro m
          induction m with
          | zero => exact Nat.le_refl _
          | succ m ih =>
            rw [doorsTo_succ, List.length_append]
            have : (doorRow ps r m).length ≤ 2 := by unfold doorRow; (repeat' split) <;> simp
            omega
        have z := this ps.length
        have := hk.len
        omega
      · show (2 : Nat) ≤ 1000; decide
    refine lc_tup (K := K) (a := Tb) (xs := us) (fun i G => Keep [] H2 G ∧ Tr (W :: av) G ∧ ∃ ws : List V, G W = some (.lst ws) ∧ ws.length ≤ i ∧ Dts (W :: av) G ws ((((sortL (besideL ps p)).take i).filter fun b => decide (ln ≤ armTo ps d p b n.toNat)).map tupI))
      ⟨Keep.new nW, (t2.upd).cons upd_same, [], upd_same, Nat.le_refl _, .nil⟩ (fun i G _ p => SqT.of (p.1 Tb _ eTb List.not_mem_nil)) (fun i y G hy pp => ?_) (fun G pp => ?_)
    · obtain ⟨kG, tG, ws, eW, lw, dw⟩ := pp
      obtain ⟨dd, gd, dy⟩ := (duW.keep kG.of).getv i hy
      rw [List.getElem?_map] at gd
      obtain ⟨b, gb, rfl⟩ := Option.map_eq_some_iff.mp gd
      have hi : i < us.length := (List.getElem?_eq_some_iff.mp hy).1
      have adj : Adj ps p b := (mem_beside T okp).mp ((List.mergeSort_perm _ leI).mem_iff.mp (List.mem_of_getElem? gb))
      have k12 := k2.trans kG
      have tk : (sortL (besideL ps p)).take (i + 1) = (sortL (besideL ps p)).take i ++ [b] := by rw [List.take_add_one, gb]; rfl
      refine ⟨rfl, .ref x, rfl, v, rfl, y, rfl, x, v, y, n, ps, d, p, b, rfl, pl.keep k12, T, by omega, n16, (hv.keep k1).keep k12, dy.less (fun _ m => nomatch m), okp, ok_adj T adj, fun G2 kg => ⟨.int ln, rfl, _, ln, rfl, rfl, _, rfl, ?_⟩⟩
      have eW2 := kg W _ eW List.not_mem_nil
      have tG2 : Tr (W :: av) G2 := tG.kp kg (fun _ m => nomatch m)
      by_cases c : ln ≤ armTo ps d p b n.toNat
      · rw [show decide (armTo ps d p b n.toNat ≥ ln) = true from decide_eq_true c]
        refine iteT ?_
        refine ⟨y, rfl, ws, eW2, Nat.lt_of_lt_of_le (by omega : ws.length < 1001) (show 1001 ≤ sizeLine by decide), (kG.trans kg).upd nW, tG2.upd, ws ++ [y], upd_same, by rw [List.length_append]; show ws.length + 1 ≤ _; omega, ?_⟩
        rw [tk, List.filter_append, show [b].filter (fun b => decide (ln ≤ armTo ps d p b n.toNat)) = [b] by simp [c], List.map_append]
        exact ((dw.keep kg.of).app (.cons (dy.keep kg.of) .nil)).keep (Keep.put List.mem_cons_self)
      · rw [show decide (armTo ps d p b n.toNat ≥ ln) = false from decide_eq_false c]
        refine iteF ?_
        refine ⟨kG.trans kg, tG2, ws, eW2, by omega, ?_⟩
        rw [tk, List.filter_append, show [b].filter (fun b => decide (ln ≤ armTo ps d p b n.toNat)) = [] by simp [c], List.append_nil]
        exact dw.keep kg.of
    · obtain ⟨kG, tG, ws, eW, lw, dw⟩ := pp
      rw [lus, List.take_length] at dw
      have tav : Tr av G := fun a m => tG a (List.mem_cons_of_mem _ m)
      refine ⟨W, ws, rfl, .inl ⟨SqL.of eW, fun R nR => ?_⟩⟩
      exact q _ R (k1.trans (k2.trans (kG.trans (Keep.new nR)))) tav.upd (.tup (tav.not nR) upd_same ((dw.less fun a m => List.mem_cons_of_mem _ m).keep (Keep.new nR)))
end
end Rw

namespace Rw
open PySem PySem.Spec PyProof.Rows L2
/-! ### same, of the same data twice: numbers, and tuples of these -/
inductive IT : Nat → PyData → Prop
  | int (m : Nat) (i : Int) : IT m (.int i)
  | tup {m : Nat} {ds : List PyData} : ds.length ≤ 1000 → (∀ d ∈ ds, IT m d) → IT (m + 1) (.tuple ds)
theorem IT.place (p : List Int) (h : p.length ≤ 1000) : IT 1 (tupI p) := by
  unfold tupI
  refine .tup (by rw [List.length_map]; exact h) fun d hd => ?_
  obtain ⟨i, _, rfl⟩ := List.mem_map.mp hd
  exact .int 0 i
theorem IT.places (ps : List (List Int)) (h : ps.length ≤ 1000) (h2 : ∀ p ∈ ps, p.length ≤ 1000) : IT 2 (.tuple (ps.map tupI)) := by
  refine .tup (by rw [List.length_map]; exact h) fun d hd => ?_
  obtain ⟨p, hp, rfl⟩ := List.mem_map.mp hd
  exact IT.place p (h2 p hp)
section
variable {P : Program} {w : World} {K : PySem.W.Frag} {mg : Str → Option Value} {base : Heap}
abbrev sSame : Stmt := topS 16
abbrev nSame : List Str := ["_law_found", "_law_due", "_law_k"]
theorem scSame : FnScope nSame ["_law_found", "_law_due"] (defScope sSame) := ⟨rfl, rfl, rfl, by decide +kernel, rfl, by decide +kernel, by decide +kernel⟩
def spSameT (m : Nat) : Sp := fun vs H Q _ => ∃ (v u : V) (d : PyData), vs = [v, u] ∧ Dt [] H v d ∧ Dt [] H u d ∧ IT m d ∧ ∀ H', Keep [] H H' → Q (.bl true) H'
theorem same_int {f : Addr} {fd : FuncData} (F : Fun K "_law_same" "_law_same" sSame f fd) (B : Blt mg) {k : Nat} {cdv : Value} {A : Around} {outer : List Env} {s : Shared} {H : Hp} {Q : VK} {E : XK} {i : Int} (hr : Room k (A.deeper (envOfC "_law_same" (defScope sSame) s.heap.objs.size f cdv))) (q : ∀ H', Keep [] H H' → Q (.bl true) H') :
    ∃ t, PSs (cxOf CX0 P w K mg base nSame "_law_same" (defScope sSame) f cdv A outer s H E).nox (defBody sSame) t ∧ t { nx := fun _ H' => Q .non H', rt := Q } (L2.start nSame [.int i, .int i]) H := by
  refine ⟨_, (pss_cons (ps_if (pt_val (pe_callB (call_isD kit_tup) (by rfl) B.isi boot_isinstance (pa_cons (pv 1) (pa_cons (pe_bltn (v := .ty "tuple") (by rfl) B.tuple_ boot_tuple rfl) pa_nil)))) (pss_cons ps_never
      (pss_one ps_never)) pss_nil)
      (pss_cons (ps_if (pt_cmpR op_isN (pv 1) pe_non (nomark _)) (pss_one ps_never) pss_nil)
      (pss_cons (ps_if (pt_val (pe_callB (call_isD kit_str) (by rfl) B.isi boot_isinstance (pa_cons (pv 1) (pa_cons (pe_bltn (v := .ty "str") (by rfl) B.str_ boot_str rfl) pa_nil)))) (pss_one ps_never) pss_nil)
      (pss_one (ps_ret (pe_and (pe_callB (call_isD kit_int) (by rfl) B.isi boot_isinstance (pa_cons (pv 0) (pa_cons (pe_bltn (v := .ty "int") (by rfl) B.int_ boot_int rfl) pa_nil))) (pe_and (pe_cmpR op_eq (pe_callB (call_isD kit_bool) (by rfl) B.isi boot_isinstance (pa_cons (pv 0) (pa_cons (pe_bltn (v := .ty "bool") (by rfl) B.bool_ boot_bool rfl) pa_nil))) (pe_callB (call_isD kit_bool) (by rfl) B.isi boot_isinstance (pa_cons (pv 1) (pa_cons (pe_bltn (v := .ty "bool") (by rfl) B.bool_ boot_bool rfl) pa_nil))) (nomark _)) (pe_one (pe_cmpR op_eq (pv 0) (pv 1) (nomark _)))))))))), ?_⟩
  refine ⟨.int i, rfl, .int i, .int i, [], rfl, .int i, _, rfl, iteF ?_⟩
  refine ⟨.int i, rfl, rfl, _, rfl, ?_⟩
  rw [show decide (V.int i = V.non) = false from decide_eq_false (fun e => by cases e)]
  refine iteF ⟨.int i, rfl, .int i, .int i, [], rfl, .int i, _, rfl, iteF ?_⟩
  refine ⟨.int i, rfl, .int i, .int i, [], rfl, .int i, _, rfl, iteT ?_⟩
  refine ⟨.int i, rfl, .int i, .int i, [], rfl, .int i, .int i, rfl, .int i, .int i, [], rfl, .int i, rfl, _, rfl, iteT ?_⟩
  refine ⟨.int i, rfl, .int i, rfl, rfl, ?_⟩
  rw [decide_eq_true (rfl : V.int i = V.int i)]
  exact q _ (Keep.refl _ _)
theorem ok_sameT (h : Has K mg "_law_same" sSame) (B : Blt mg) : ∀ m, Can P w K mg base "_law_same" ["_law_found", "_law_due"] (m + 1) (spSameT m) := by
  intro m
  obtain ⟨f, fd, F, g⟩ := h
  induction m with
  | zero =>
    refine ⟨f, fd, F.ok (k := 0) scSame (fun vs H Q E h => ?_) (fun cdv A outer s H vs Q E hr h => ?_), g, F.kp, F.binds fun _ _ _ _ _ _ us hl => match us, hl with | [_, _], _ => rfl⟩
    · obtain ⟨v, u, d, rfl, _⟩ := h
      rfl
    · obtain ⟨v, u, d, rfl, hv, hu, it, q⟩ := h
      cases it with
      | int i =>
        cases hv
        cases hu
        exact same_int F B hr q
  | succ m ih =>
    refine ⟨f, fd, F.ok (k := m + 1) scSame (fun vs H Q E h => ?_) (fun cdv A outer s H vs Q E hr h => ?_), g, F.kp, F.binds fun _ _ _ _ _ _ us hl => match us, hl with | [_, _], _ => rfl⟩
    · obtain ⟨v, u, d, rfl, _⟩ := h
      rfl
    · obtain ⟨v, u, d, rfl, hv, hu, it, q⟩ := h
      cases it with
      | int i =>
        cases hv
        cases hu
        exact same_int F B hr q
      | tup ln hd =>
        rename_i ds
        have C0 := ih
        refine ⟨_, pss_cons (ps_if (pt_val (pe_callB (call_isD kit_tup) (by rfl) B.isi boot_isinstance (pa_cons (pv 1) (pa_cons (pe_bltn (v := .ty "tuple") (by rfl) B.tuple_ boot_tuple rfl) pa_nil))))
          (pss_cons (ps_if (PW.pt (pw_or (pt_not (pt_val (pe_callB (call_isD kit_tup) (by rfl) B.isi boot_isinstance (pa_cons (pv 0) (pa_cons (pe_bltn (v := .ty "tuple") (by rfl) B.tuple_ boot_tuple rfl) pa_nil))))) (pw_or1 (pt_cmpR op_ne (pe_callB call_len_seq (by rfl) B.len_ PySem.boot_len (pa_cons (pv 0) pa_nil)) (pe_callB call_len_seq (by rfl) B.len_ PySem.boot_len (pa_cons (pv 1) pa_nil)) (nomark _))))) (pss_one (ps_ret pe_bl)) pss_nil)
          (pss_one (ps_ret (pe_cmpR (op_eqNilL hr.units0) (pe_lc (own := [("_law_k", 2)]) (g := gName 2) rfl scSame.nd (pi_range1 (by rfl) B.range_ (pa_cons (pe_callB call_len_seq (by rfl) B.len_ PySem.boot_len (pa_cons (pv 1) pa_nil)) pa_nil)) (blkOk_by (N := nSame) (sc := defScope sSame) (by decide +kernel)) (fun _ _ _ _ _ => pg_name (i := 2) scSame.nd rfl (Or.inl rfl)) (fun _ _ _ _ _ => pts_one (pt_not (pt_val (pe_can C0 hr (by rfl) (pa_cons (pe_ix (ix_tupK (K := K) rfl) (pv 0) (pv 2) (fun _ _ => rfl)) (pa_cons (pe_ix (ix_tupK (K := K) rfl) (pv 1) (pv 2) (fun _ _ => rfl)) pa_nil)))))) (fun _ _ _ _ _ => (pv 2))) (pe_lst pa_nil) (nomark _))))) pss_nil)
          (pss_cons ps_never (pss_cons ps_never (pss_one ps_never))), ?_⟩
        obtain ⟨a, xs, rfl, _, ea, da⟩ : ∃ (a : Addr) (xs : List V), v = .ref a ∧ a ∉ ([] : List Addr) ∧ H a = some (.tup xs) ∧ Dts [] H xs ds := by cases hv with | tup n e d => exact ⟨_, _, rfl, n, e, d⟩
        obtain ⟨b, ys, rfl, _, eb, db⟩ : ∃ (a : Addr) (xs : List V), u = .ref a ∧ a ∉ ([] : List Addr) ∧ H a = some (.tup xs) ∧ Dts [] H xs ds := by cases hu with | tup n e d => exact ⟨_, _, rfl, n, e, d⟩
        have la := da.len
        have lb := db.len
        refine ⟨.ref b, rfl, _, _, [], rfl, hu, _, rfl, iteT ?_⟩
        refine ⟨.ref a, rfl, _, _, [], rfl, hv, _, rfl, iteF ?_⟩
        refine ⟨.ref a, rfl, a, _, rfl, .inr (SqT.of ea), .ref b, rfl, b, _, rfl, .inr (SqT.of eb), rfl, _, rfl, ?_⟩
        rw [la, lb]
        refine iteNS rfl ?_
        refine ⟨.ref b, rfl, b, _, rfl, .inr (SqT.of eb), _, rfl, by omega, by omega, fun W nW => ?_⟩
        refine lc_range (lo := 0) (n := ((ys.length : Int)).toNat) (fun i G => Keep [] H G ∧ G W = some (.lst [])) ⟨Keep.new nW, upd_same⟩ (fun j J hj p => ?_) (fun J p => ?_)
        · have lj : j < ds.length := by omega
          have gd : ds[j]? = some ds[j] := List.getElem?_eq_getElem lj
          obtain ⟨va, gva, dva⟩ := da.get j gd
          obtain ⟨vb, gvb, dvb⟩ := db.get j gd
          have ej : (0 + (j : Int)).toNat = j := by omega
          refine ⟨rfl, .ref a, rfl, .int (0 + (j : Int)), rfl, a, _, 0 + (j : Int), va, rfl, rfl, SqT.of (p.1 a _ ea List.not_mem_nil), atI_of (by omega) (by rw [ej]; exact gva), .ref b, rfl, .int (0 + (j : Int)), rfl, b, _, 0 + (j : Int), vb, rfl, rfl, SqT.of (p.1 b _ eb List.not_mem_nil), atI_of (by omega) (by rw [ej]; exact gvb), va, vb, ds[j], rfl, dva.keep p.1, dvb.keep p.1, hd _ (List.getElem_mem lj), fun J2 k2 => ⟨_, rfl, iteF ?_⟩⟩
          exact ⟨p.1.trans k2, k2 W _ p.2 List.not_mem_nil⟩
        · refine ⟨show 0 ≤ sizeLine by decide, fun z nz => ?_⟩
          exact ⟨W, z, [], rfl, rfl, SqL.of (st nz p.2), SqL.of upd_same, q _ (p.1.trans (Keep.new nz))⟩
end
end Rw

namespace Rw
/-! ### a star: pipes from room 0, each to a room of its own -/
def starPi (arms : List Int) (k : Nat) : Pi := ⟨0, (k : Int) + 1, arms.getD k 0, [], []⟩
def starP (arms : List Int) : List Pi := (List.range arms.length).map (starPi arms)
theorem star_len (arms : List Int) : (starP arms).length = arms.length := by unfold starP; rw [List.length_map, List.length_range]
theorem star_get {arms : List Int} {k : Nat} (h : k < arms.length) : (starP arms)[k]? = some (starPi arms k) := by
  unfold starP; rw [List.getElem?_map, List.getElem?_range h]; rfl
theorem star_pr {arms : List Int} {k : Nat} (h : k < arms.length) : pr (starP arms) (k : Int) = starPi arms k := pr_of (star_get h)
theorem star_con (arms : List Int) : Con (((arms.length : Int) + 1).toNat) (edges (starP arms)) := by
  intro S hE a ha
  by_cases e : a = 0
  · rw [e]
  · have h : a - 1 < arms.length := by omega
    have m : starPi arms (a - 1) ∈ starP arms := List.mem_of_getElem? (star_get h)
    have := hE ((starPi arms (a - 1)).x.toNat, (starPi arms (a - 1)).y.toNat) (List.mem_map.mpr ⟨_, m, rfl⟩)
    have z : S 0 = S (((a - 1 : Nat) : Int) + 1).toNat := this
    rw [z, show (((a - 1 : Nat) : Int) + 1).toNat = a by omega]
theorem armTo_is {ps : List Pi} {d : Int → Int → Int} {p b : Pl} {m : Nat} {v : Int} (v0 : 0 ≤ v) (up : ∀ r : Nat, r < m → Dp ps d b [(r : Int)] < Dp ps d p [(r : Int)] → Dp ps d p [(r : Int)] ≤ v) (ex : ∃ r : Nat, r < m ∧ Dp ps d b [(r : Int)] < Dp ps d p [(r : Int)] ∧ Dp ps d p [(r : Int)] = v) : armTo ps d p b m = v := by
  obtain ⟨r, h1, h2, h3⟩ := ex
  have lo := armTo_le m r h1 h2
  by_cases c : 0 < armTo ps d p b m
  · obtain ⟨r', g1, g2, g3⟩ := armTo_at m c
    have := up r' g1 g2
    omega
  · omega
section
variable {arms : List Int} {d : Int → Int → Int} (T : Tm ((arms.length : Int) + 1) (starP arms) d) (big : ∀ k : Nat, k < arms.length → 2 ≤ arms.getD k 0)
include T
theorem star_own {k : Nat} (h : k < arms.length) : d 0 ((k : Int) + 1) = arms.getD k 0 ∧ d ((k : Int) + 1) 0 = arms.getD k 0 := by
  obtain ⟨o1, o2, _⟩ := T.own (i := (k : Int)) (by omega) (by rw [star_len]; omega)
  rw [star_pr h] at o1 o2
  exact ⟨o1, o2⟩
theorem star_two {i j : Nat} (hi : i < arms.length) (hj : j < arms.length) (ne : i ≠ j) : d ((i : Int) + 1) ((j : Int) + 1) = arms.getD i 0 + arms.getD j 0 := by
  have s := T.side i j _ _ ne (star_get hi) (star_get hj)
  have z : d 0 0 - d ((i : Int) + 1) 0 = d 0 ((j : Int) + 1) - d ((i : Int) + 1) ((j : Int) + 1) := s
  rw [T.zero, (star_own T hi).2, (star_own T hj).1] at z
  omega
/-! from a room to a place of an arm -/
theorem star_dr {k : Nat} (h : k < arms.length) (a : Int) (a0 : 0 ≤ a) (a1 : a ≤ arms.getD k 0) : dr (starP arms) d 0 (k : Int) a = a ∧ dr (starP arms) d ((k : Int) + 1) (k : Int) a = arms.getD k 0 - a ∧ ∀ j : Nat, j < arms.length → j ≠ k → dr (starP arms) d ((j : Int) + 1) (k : Int) a = arms.getD j 0 + a := by
  obtain ⟨o1, o2⟩ := star_own T h
  unfold dr
  rw [star_pr h]
  show min (d 0 0 + a) (d 0 ((k : Int) + 1) + (arms.getD k 0 - a)) = a ∧ min (d ((k : Int) + 1) 0 + a) (d ((k : Int) + 1) ((k : Int) + 1) + (arms.getD k 0 - a)) = arms.getD k 0 - a ∧ ∀ j : Nat, j < arms.length → j ≠ k → min (d ((j : Int) + 1) 0 + a) (d ((j : Int) + 1) ((k : Int) + 1) + (arms.getD k 0 - a)) = arms.getD j 0 + a
  rw [T.zero, T.zero, o1, o2]
  refine ⟨?_, ?_, fun j hj ne => ?_⟩
  · rw [Int.min_def]; split <;> omega
  · rw [Int.min_def]; split <;> omega
  · rw [(star_own T hj).2, star_two T hj h ne, Int.min_def]; split <;> omega
theorem star_rooms {r : Nat} (h : r < ((arms.length : Int) + 1).toNat) : r = 0 ∨ ∃ j : Nat, j < arms.length ∧ (r : Int) = (j : Int) + 1 := by
  by_cases e : r = 0
  · exact .inl e
  · exact .inr ⟨r - 1, by omega, by omega⟩
theorem star_at {k : Nat} (h : k < arms.length) {a : Int} (a0 : 0 ≤ a) (a1 : a ≤ arms.getD k 0) {r : Int} (r0 : 0 ≤ r) (r1 : r < (arms.length : Int) + 1) : Dp (starP arms) d (nm (starP arms) (k : Int) a) [r] = dr (starP arms) d r (k : Int) a := by
  have hk : (k : Int) < (starP arms).length := by rw [star_len]; omega
  have ok : okP ((arms.length : Int) + 1) (starP arms) (nm (starP arms) (k : Int) a) := ok_nm T (by omega) hk a0 (by rw [star_pr h]; exact a1)
  rw [Dp_sym T ok (show okP _ _ [r] from ⟨r0, r1⟩)]
  exact Dp_room T (by omega) hk r0 r1 a
include big
theorem star_room {j : Nat} (hj : j < arms.length) : armTo (starP arms) d [0] (nm (starP arms) (j : Int) 1) ((arms.length : Int) + 1).toNat = arms.getD j 0 := by
  have bj := big j hj
  obtain ⟨q1, q2, q3⟩ := star_dr T hj 1 (by omega) (by omega)
  refine armTo_is (by omega) (fun r hr lt => ?_) ⟨j + 1, by omega, ?_, ?_⟩
  · have e := star_at T hj (a := 1) (by omega) (by omega) (r := (r : Int)) (by omega) (by omega)
    rw [e] at lt
    rcases star_rooms T hr with rfl | ⟨i, hi, ei⟩
    · have z : d 0 0 = 0 := T.zero 0
      have w : Dp (starP arms) d [0] [((0 : Nat) : Int)] = d 0 0 := rfl
      rw [w] at lt ⊢
      omega
    · have w : Dp (starP arms) d [0] [(r : Int)] = d 0 (r : Int) := rfl
      rw [w, ei, (star_own T hi).1] at lt ⊢
      by_cases c : i = j
      · subst c; omega
      · rw [q3 i hi c] at lt; omega
  · have e := star_at T hj (a := 1) (by omega) (by omega) (r := ((j + 1 : Nat) : Int)) (by omega) (by omega)
    rw [e, show ((j + 1 : Nat) : Int) = (j : Int) + 1 by omega, q2]
    show _ < d 0 ((j : Int) + 1)
    rw [(star_own T hj).1]; omega
  · show d 0 ((j + 1 : Nat) : Int) = _
    rw [show ((j + 1 : Nat) : Int) = (j : Int) + 1 by omega, (star_own T hj).1]
theorem star_back {k : Nat} (hk : k < arms.length) {a M : Int} (a0 : 1 ≤ a) (a1 : a ≤ arms.getD k 0 - 1) (hM : ∃ j : Nat, j < arms.length ∧ j ≠ k ∧ arms.getD j 0 = M) (up : ∀ j : Nat, j < arms.length → j ≠ k → arms.getD j 0 ≤ M) :
    armTo (starP arms) d [(k : Int), a] (nm (starP arms) (k : Int) (a - 1)) ((arms.length : Int) + 1).toNat = a + M := by
  obtain ⟨q1, q2, q3⟩ := star_dr T hk a (by omega) (by omega)
  obtain ⟨s1, s2, s3⟩ := star_dr T hk (a - 1) (by omega) (by omega)
  obtain ⟨jm, hm, nm', em⟩ := hM
  have bm := big jm hm
  have w : ∀ r : Int, Dp (starP arms) d [(k : Int), a] [r] = dr (starP arms) d r (k : Int) a := fun r => rfl
  refine armTo_is (by omega) (fun r hr lt => ?_) ⟨jm + 1, by omega, ?_, ?_⟩
  · rw [star_at T hk (a := a - 1) (by omega) (by omega) (r := (r : Int)) (by omega) (by omega), w] at lt
    rw [w]
    rcases star_rooms T hr with rfl | ⟨i, hi, ei⟩
    · show dr (starP arms) d 0 (k : Int) a ≤ _
      rw [q1]; omega
    · rw [ei] at lt ⊢
      by_cases c : i = k
      · subst c; rw [q2, s2] at lt; omega
      · have := up i hi c
        rw [q3 i hi c]; omega
  · rw [star_at T hk (a := a - 1) (by omega) (by omega) (r := ((jm + 1 : Nat) : Int)) (by omega) (by omega), w, show ((jm + 1 : Nat) : Int) = (jm : Int) + 1 by omega, s3 jm hm nm', q3 jm hm nm']; omega
  · rw [w, show ((jm + 1 : Nat) : Int) = (jm : Int) + 1 by omega, q3 jm hm nm']; omega
theorem star_ahead {k : Nat} (hk : k < arms.length) {a : Int} (a0 : 1 ≤ a) (a1 : a ≤ arms.getD k 0 - 1) : armTo (starP arms) d [(k : Int), a] (nm (starP arms) (k : Int) (a + 1)) ((arms.length : Int) + 1).toNat = arms.getD k 0 - a := by
  obtain ⟨q1, q2, q3⟩ := star_dr T hk a (by omega) (by omega)
  obtain ⟨s1, s2, s3⟩ := star_dr T hk (a + 1) (by omega) (by omega)
  have w : ∀ r : Int, Dp (starP arms) d [(k : Int), a] [r] = dr (starP arms) d r (k : Int) a := fun r => rfl
  refine armTo_is (by omega) (fun r hr lt => ?_) ⟨k + 1, by omega, ?_, ?_⟩
  · rw [star_at T hk (a := a + 1) (by omega) (by omega) (r := (r : Int)) (by omega) (by omega), w] at lt
    rw [w]
    rcases star_rooms T hr with rfl | ⟨i, hi, ei⟩
    · have lt' : dr (starP arms) d 0 (k : Int) (a + 1) < dr (starP arms) d 0 (k : Int) a := lt
      rw [q1, s1] at lt'; omega
    · rw [ei] at lt ⊢
      by_cases c : i = k
      · subst c; rw [q2]; omega
      · rw [q3 i hi c, s3 i hi c] at lt; omega
  · rw [star_at T hk (a := a + 1) (by omega) (by omega) (r := ((k + 1 : Nat) : Int)) (by omega) (by omega), w, show ((k + 1 : Nat) : Int) = (k : Int) + 1 by omega, s2, q2]; omega
  · rw [w, show ((k + 1 : Nat) : Int) = (k : Int) + 1 by omega, q2]
/-! what hangs there, by lengths -/
theorem star_long {ln : Int} (pos : 0 < arms.length) : longL ((arms.length : Int) + 1) (starP arms) d ln [0] = sortL (((List.range arms.length).filter fun j => decide (arms.getD j 0 ≥ ln)).map fun j : Nat => nm (starP arms) (j : Int) 1) := by
  have ok0 : okP ((arms.length : Int) + 1) (starP arms) [0] := ⟨by omega, by omega⟩
  have nm1 : ∀ j : Nat, j < arms.length → nm (starP arms) (j : Int) 1 = [(j : Int), 1] := fun j hj => nm_mid (by omega) (by
    have := big j hj
    rw [star_pr hj]; show (1 : Int) ≠ arms.getD j 0; omega)
  have nd : ((List.range arms.length).map fun j : Nat => nm (starP arms) (j : Int) 1).Nodup := by
    have e : ((List.range arms.length).map fun j : Nat => nm (starP arms) (j : Int) 1) = (List.range arms.length).map fun j : Nat => [(j : Int), 1] := List.map_congr_left fun j hj => nm1 j (List.mem_range.mp hj)
    rw [e]
    refine List.Pairwise.map _ (fun a b h z => h ?_) List.nodup_range
    have := (List.cons.inj z).1
    omega
  have pm : (besideL (starP arms) [0]).Perm ((List.range arms.length).map fun j : Nat => nm (starP arms) (j : Int) 1) := by
    refine perm_of (beside_nodup T ok0) nd fun x => ?_
    rw [mem_beside T ok0, List.mem_map]
    constructor
    · rintro ⟨i, a, h0, h1, a0, a1, h⟩
      rw [star_len] at h1
      obtain ⟨k, rfl⟩ : ∃ k : Nat, i = (k : Int) := ⟨i.toNat, by omega⟩
      have hk : k < arms.length := by omega
      rw [star_pr hk] at a1
      have bk := big k hk
      have a1' : a < arms.getD k 0 := a1
      refine ⟨k, List.mem_range.mpr hk, ?_⟩
      rcases h with ⟨e1, e2⟩ | ⟨e1, e2⟩
      · rcases nm_one e1.symm with ⟨z, _⟩ | ⟨z, _⟩
        · subst z; exact e2.symm
        · rw [star_pr hk] at z
          have z' : a = arms.getD k 0 := z
          omega
      · rcases nm_one e2.symm with ⟨z, _⟩ | ⟨z, zy⟩
        · omega
        · rw [star_pr hk] at zy
          have zy' : (k : Int) + 1 = 0 := zy
          omega
    · rintro ⟨k, hk, rfl⟩
      have hk := List.mem_range.mp hk
      have bk := big k hk
      refine ⟨(k : Int), 0, by omega, by rw [star_len]; omega, by omega, by rw [star_pr hk]; show (0 : Int) < arms.getD k 0; omega, .inl ⟨?_, rfl⟩⟩
      rw [nm_0, star_pr hk]; rfl
  unfold longL
  rw [sorted_filter]
  refine sortL_perm ?_
  refine (pm.filter _).trans ?_
  rw [List.filter_map]
  refine List.Perm.map _ (List.Perm.of_eq ?_)
  refine List.filter_congr fun j hj => ?_
  show decide (ln ≤ armTo (starP arms) d [0] (nm (starP arms) (j : Int) 1) ((arms.length : Int) + 1).toNat) = decide (arms.getD j 0 ≥ ln)
  rw [star_room T big (List.mem_range.mp hj)]
theorem star_mid {k : Nat} (hk : k < arms.length) {a M ln : Int} (a0 : 1 ≤ a) (a1 : a ≤ arms.getD k 0 - 1) (hM : ∃ j : Nat, j < arms.length ∧ j ≠ k ∧ arms.getD j 0 = M) (up : ∀ j : Nat, j < arms.length → j ≠ k → arms.getD j 0 ≤ M) :
    longL ((arms.length : Int) + 1) (starP arms) d ln [(k : Int), a] = sortL ((if a + M ≥ ln then [nm (starP arms) (k : Int) (a - 1)] else []) ++ (if arms.getD k 0 - a ≥ ln then [nm (starP arms) (k : Int) (a + 1)] else [])) := by
  unfold longL
  rw [sorted_filter]
  show sortL ([nm (starP arms) (k : Int) (a - 1), nm (starP arms) (k : Int) (a + 1)].filter _) = _
  congr 1
  rw [List.filter_cons, List.filter_cons, List.filter_nil, star_back T big hk a0 a1 hM up, star_ahead T big hk a0 a1]
  by_cases c1 : ln ≤ a + M <;> by_cases c2 : ln ≤ arms.getD k 0 - a <;> simp [c1, c2]
end
end Rw

namespace Rw
open PySem PySem.Spec PyProof.Rows L2
theorem sort_places {K : PySem.W.Frag} {G : Hp} {Ld : Addr} {us : List V} {qs : List Pl} {Q : VK} (eL : G Ld = some (.lst us)) (du : Dts [] G us (qs.map tupI)) (ne : ∀ q ∈ qs, q ≠ []) (len : us.length ≤ 1000)
    (k : ∀ (G' : Hp) (N : Addr) (vs : List V), Keep [] G G' → G' N = some (.lst vs) → Dts [] G' vs ((sortL qs).map tupI) → Q (.ref N) G') : rSortVI K [.ref Ld] G Q := by
  have lz : us.length = qs.length := by rw [du.len, List.length_map]
  refine ⟨Ld, us.zip qs, rfl, by rw [zip_fst lz]; exact SqL.of eL, ?_, fun b hb => ne b.2 (List.of_mem_zip hb).2, by rw [List.length_zip]; omega, fun N nN => k _ N _ (Keep.new nN) upd_same (Dts.keep ?_ (Keep.new nN))⟩
  · rw [zip_fst lz, show ((us.zip qs).map encVI) = ((us.zip qs).map (·.2)).map tupI by rw [List.map_map]; rfl, zip_snd lz]
    exact du.dp _ _ (lay_tups qs)
  · have all : ∀ b ∈ sortVI (us.zip qs), Dt [] G b.1 (tupI b.2) := fun b hb => by
      have hb' := List.mem_mergeSort.mp hb
      obtain ⟨i, gi⟩ := List.mem_iff_getElem?.mp hb'
      obtain ⟨g1, g2⟩ := List.getElem?_zip_eq_some.mp gi
      obtain ⟨dd, gd, dx⟩ := du.getv i g1
      rw [List.getElem?_map, g2] at gd
      cases gd; exact dx
    have e2 : (sortL qs).map tupI = (sortVI (us.zip qs)).map (fun b => tupI b.2) := by
      rw [← zip_snd lz, ← sortVI_snd, zip_snd lz, List.map_map]; rfl
    rw [e2]
    generalize sortVI (us.zip qs) = bs at all
    induction bs with
    | nil => exact .nil
    | cons b bs ih => exact .cons (all b List.mem_cons_self) (ih fun z hz => all z (List.mem_cons_of_mem _ hz))
theorem rep01 (c : Bool) (v : V) : (List.replicate (Int.toNat (if c = true then 1 else 0)) [v]).flatten = if c = true then [v] else [] := by cases c <;> rfl
theorem nm_short (ps : List Pi) (i t : Int) : (nm ps i t).length ≤ 1000 := by
  unfold nm
  split
  · show (1 : Nat) ≤ 1000; decide
  · split
    · show (1 : Nat) ≤ 1000; decide
    · show (2 : Nat) ≤ 1000; decide
theorem getD_at {arms : List Int} {k : Nat} (h : k < arms.length) : arms[k]? = some (arms.getD k 0) := by
  rw [List.getD_eq_getElem?_getD, List.getElem?_eq_getElem h]; rfl
theorem others_at {arms : List Int} {k : Nat} (hk : k < arms.length) (x : Int) : x ∈ arms.take k ++ arms.drop (k + 1) ↔ ∃ j : Nat, j < arms.length ∧ j ≠ k ∧ arms.getD j 0 = x := by
  rw [List.mem_append]
  constructor
  · rintro (m | m)
    · obtain ⟨j, g⟩ := List.mem_iff_getElem?.mp m
      have hj : j < k := by have := (List.getElem?_eq_some_iff.mp g).1; rw [List.length_take] at this; omega
      rw [List.getElem?_take_of_lt hj, getD_at (by omega)] at g
      exact ⟨j, by omega, by omega, Option.some.inj g⟩
    · obtain ⟨j, g⟩ := List.mem_iff_getElem?.mp m
      rw [List.getElem?_drop] at g
      have hj := (List.getElem?_eq_some_iff.mp g).1
      rw [getD_at hj] at g
      exact ⟨k + 1 + j, hj, by omega, Option.some.inj g⟩
  · rintro ⟨j, hj, ne, rfl⟩
    by_cases c : j < k
    · left
      refine List.mem_iff_getElem?.mpr ⟨j, ?_⟩
      rw [List.getElem?_take_of_lt c]; exact getD_at hj
    · right
      refine List.mem_iff_getElem?.mpr ⟨j - (k + 1), ?_⟩
      rw [List.getElem?_drop, show k + 1 + (j - (k + 1)) = j by omega]; exact getD_at hj
section
variable {P : Program} {w : World} {K : PySem.W.Frag} {mg : Str → Option Value} {base : Heap}
abbrev sStar : Stmt := topS 22
abbrev nStar : List Str := ["_law_deck", "_law_top", "_law_k", "_law_some"]
theorem scStar : FnScope nStar ["_law_deck"] (defScope sStar) := ⟨rfl, rfl, rfl, by decide +kernel, rfl, by decide +kernel, by decide +kernel⟩
def spStar : Sp := fun vs H Q _ => ∃ (D G : Addr) (b : Int), vs = [.ref D] ∧ Dk H D G b ∧ b ≤ 600000000 ∧
  ∀ H' (L : Addr) (arms : List Int), Keep [D, G] H H' → Dk H' D G (b + 20) → H L = none → H' L = some (.lst (arms.map V.int)) → 3 ≤ arms.length → arms.length ≤ 5 → (∀ a ∈ arms, 2 ≤ a ∧ a ≤ 1000000000000) → Q (.ref L) H'
theorem ok_star (h : Has K mg "_law_star" sStar) (B : Blt mg) (CN : Can P w K mg base "_law_next" ["_law_deck", "_law_many"] 1 spNx) : Can P w K mg base "_law_star" ["_law_deck"] 2 spStar := by
  obtain ⟨f, fd, F, g⟩ := h
  refine ⟨f, fd, F.ok (k := 1) scStar (fun vs H Q E h => ?_) (fun cdv A outer s H vs Q E hr h => ?_), g, F.kp, F.binds fun _ _ _ _ _ _ us hl => match us, hl with | [_], _ => rfl⟩
  · obtain ⟨D, G, b, rfl, _⟩ := h
    rfl
  · obtain ⟨D, G, b, rfl, dk, hb, q⟩ := h
    refine ⟨_, pss_cons (ps_set (i := 1) scStar.nd rfl (by first | exact Or.inl rfl | exact Or.inr rfl) (pe_ix ix_list (pe_lst (pa_cons (pe_op op_pow pe_int pe_int) (pa_cons (pe_op op_pow pe_int pe_int) (pa_cons pe_int pa_nil)))) (pe_can CN (hr.mono (by decide)) (by rfl) (pa_cons (pv 0) (pa_cons pe_int pa_nil))) (fun _ _ => rfl)))
      (pss_cons (ps_setLc (i := 3) (own := [("_law_k", 2)]) (g := gName 2) (tt := tYes) rfl scStar.nd rfl rfl (sw_true rfl rfl rfl (by decide +kernel)) (pi_range1 (by rfl) B.range_ (pa_cons (pe_op op_add pe_int (pe_can CN (hr.mono (by decide)) (by rfl) (pa_cons (pv 0) (pa_cons pe_int pa_nil)))) pa_nil)) (blkOk_by (N := nStar) (sc := defScope sStar) (by decide +kernel)) (fun _ _ _ _ _ => (pg_name (i := 2) scStar.nd rfl (by first | exact Or.inl rfl | exact Or.inr rfl))) (fun _ _ _ _ _ => pts_nil) (fun _ _ _ _ _ => (pe_op op_add pe_int (pe_can CN (hr.mono (by decide)) (by rfl) (pa_cons (pv 0) (pa_cons (pe_op op_sub (pv 1) pe_int) pa_nil))))))
      (pss_cons (ps_if (pt_cmpR op_eq (pe_can CN (hr.mono (by decide)) (by rfl) (pa_cons (pv 0) (pa_cons pe_int pa_nil))) pe_int (nomark _)) (pss_one (ps_asg (pe_ix ix_list (pv 3) pe_int (fun _ _ => rfl)) (pg_sub (pv 3) pe_int set_list))) pss_nil)
      (pss_one (ps_ret (pv 3))))), ?_⟩
    refine ⟨10, 12, rfl, rfl, ⟨by decide, by decide, by decide⟩, 10, 12, rfl, rfl, ⟨by decide, by decide, by decide⟩, show 3 ≤ sizeLine by decide, fun L0 nL0 => ?_⟩
    have e0 : (upd H L0 (.lst [.int (10 ^ Int.toNat 12), .int (10 ^ Int.toNat 12), .int 50])) L0 = some (.lst ([10 ^ Int.toNat 12, 10 ^ Int.toNat 12, 50].map V.int)) := upd_same
    have z0 := dk.nes nL0
    have k0 : Keep [] H (upd H L0 (.lst [.int (10 ^ Int.toNat 12), .int (10 ^ Int.toNat 12), .int 50])) := Keep.new nL0
    have dk0 := dk.keep k0
    generalize upd H L0 (.lst [.int (10 ^ Int.toNat 12), .int (10 ^ Int.toNat 12), .int 50]) = H0 at e0 k0 dk0 ⊢
    refine ⟨.ref D, rfl, D, G, _, 3, rfl, by decide, by decide, dk0, by omega, fun H1 x kp1 dk1 x0 x1 => ?_⟩
    obtain ⟨top, et, t1, t2⟩ := pick_in (P := fun x => 50 ≤ x ∧ x ≤ 1000000000000) (xs := [10 ^ Int.toNat 12, 10 ^ Int.toNat 12, 50]) (by
      intro x hx
      simp only [List.mem_cons, List.not_mem_nil, or_false] at hx
      rcases hx with rfl | rfl | rfl <;> decide) x0 x1
    refine ⟨L0, _, x, _, rfl, rfl, SqL.of (kp1 L0 _ e0 (not2 z0)), et, ?_⟩
    refine ⟨.ref D, rfl, D, G, _, 3, rfl, by decide, by decide, dk1, by omega, fun H2 y kp2 dk2 y0 y1 => ⟨3, y, rfl, rfl, _, rfl, by omega, by omega, fun W nW => ?_⟩⟩
    have S0 : Sg [] D G H H2 (b + 2) := ⟨k0.of.trans (kp1.trans kp2), dk2.mono (by omega), fun _ m => nomatch m⟩
    have fW := S0.free nW
    have zW := dk2.nes nW
    refine lc_range (lo := 0) (n := (3 + y).toNat) (fun i J => Sg [] D G H J (b + 2 + i) ∧ ∃ cs : List Int, cs.length = i ∧ (∀ c ∈ cs, 2 ≤ c ∧ c ≤ 1000000000000) ∧ J W = some (.lst (cs.map V.int)))
      ⟨(S0.new nW).mono (by omega), [], rfl, fun _ m => absurd m List.not_mem_nil, upd_same⟩ (fun i J hi p => ?_) (fun J p => ?_)
    · obtain ⟨SJ, cs, lc, hc, eW⟩ := p
      refine ⟨rfl, .ref D, rfl, .int top, rfl, top, 1, rfl, rfl, D, G, _, _, rfl, by omega, by omega, SJ.dk, by omega, fun J2 z kp dk' z0 z1 => ⟨2, z, rfl, rfl, ?_⟩⟩
      have eW2 := kp W _ eW (not2 zW)
      have S2 := SJ.go kp dk'
      refine ⟨cs.map V.int, eW2, by rw [List.length_map]; exact small1000 (by omega), ⟨S2.k.upd fW, (S2.dk.other zW.1 zW.2).mono (by omega), fun _ m => nomatch m⟩, cs ++ [2 + z], by rw [List.length_append, lc]; rfl, fun c hc' => ?_, by rw [upd_same, List.map_append]; rfl⟩
      rcases List.mem_append.mp hc' with m | m
      · exact hc c m
      · rw [List.mem_singleton.mp m]; omega
    · obtain ⟨SJ, cs, lc, hc, eW⟩ := p
      refine ⟨.ref D, rfl, D, G, _, 2, rfl, by decide, by decide, SJ.dk, by omega, fun J2 z kp dk' z0 z1 => ⟨rfl, _, rfl, ite2 (fun c => ?_) (fun c => ?_)⟩⟩
      · have eW2 := kp W _ eW (not2 zW)
        have S2 := SJ.go kp dk'
        obtain ⟨c0, c1, rest, rfl⟩ : ∃ c0 c1 rest, cs = c0 :: c1 :: rest := by
          match cs, lc with
          | a :: b :: r, _ => exact ⟨a, b, r, rfl⟩
          | [_], h => simp at h; omega
          | [], h => simp at h; omega
        refine ⟨.ref W, rfl, W, _, 0, .int c0, rfl, rfl, SqL.of eW2, atI_nat (j := 0) rfl, .ref W, rfl, W, _, 1, 1, rfl, rfl, eW2, ixN_at (by omega) (by simp; omega), ?_⟩
        refine ⟨.ref W, rfl, ?_⟩
        refine q _ W (c0 :: c0 :: rest) (S2.k.upd fW) ((S2.dk.other zW.1 zW.2).mono (by omega)) fW (by rw [upd_same]; rfl) (by simp at lc ⊢; omega) (by simp at lc ⊢; omega) fun a ha => ?_
        rcases List.mem_cons.mp ha with rfl | ha
        · exact hc _ List.mem_cons_self
        · rcases List.mem_cons.mp ha with rfl | ha
          · exact hc _ List.mem_cons_self
          · exact hc a (by simp [ha])
      · have eW2 := kp W _ eW (not2 zW)
        have S2 := SJ.go kp dk'
        exact ⟨.ref W, rfl, q _ W cs S2.k (S2.dk.mono (by omega)) fW eW2 (by omega) (by omega) hc⟩
abbrev sFarR : Stmt := topS 23
abbrev nFarR : List Str := ["_law_deck", "_law_arms", "_law_k", "_law_house_here", "_law_at", "_law_back", "_law_ahead", "_law_length", "_law_j", "_law_due"]
theorem scFarR : FnScope nFarR ["_law_deck"] (defScope sFarR) := ⟨rfl, rfl, rfl, by decide +kernel, rfl, by decide +kernel, by decide +kernel⟩
def spFarR : Sp := fun vs H Q _ => ∃ (D G : Addr) (b : Int), vs = [.ref D] ∧ Dk H D G b ∧ b ≤ 600000000 ∧ ∀ H', Q (.bl true) H'
theorem ok_farR (h : Has K mg "_law_far_right" sFarR) (B : Blt mg) (CN : Can P w K mg base "_law_next" ["_law_deck", "_law_many"] 1 spNx) (CT : Can P w K mg base "_law_star" ["_law_deck"] 2 spStar) (CO : Can P w K mg base "_law_spot" ["_law_house_here", "_law_pipe", "_law_at"] 1 spSpot) (CS : Can P w K mg base "_law_same" ["_law_found", "_law_due"] 3 (spSameT 2)) (CL : Can P w K mg base "long_arms" ["house", "length", "place"] 5 spLArm) : Can P w K mg base "_law_far_right" ["_law_deck"] 6 spFarR := by
  obtain ⟨f, fd, F, g⟩ := h
  refine ⟨f, fd, F.ok (k := 5) scFarR (fun vs H Q E h => ?_) (fun cdv A outer s H vs Q E hr h => ?_), g, F.kp, F.binds fun _ _ _ _ _ _ us hl => match us, hl with | [_], _ => rfl⟩
  · obtain ⟨D, G, b, rfl, _⟩ := h
    rfl
  · obtain ⟨D, G, b, rfl, dk, hb, q⟩ := h
    refine ⟨_, pss_cons (ps_set (i := 1) scFarR.nd rfl (by first | exact Or.inl rfl | exact Or.inr rfl) (pe_can CT (hr.mono (by decide)) (by rfl) (pa_cons (pv 0) pa_nil)))
      (pss_cons (ps_set (i := 3) scFarR.nd rfl (by first | exact Or.inl rfl | exact Or.inr rfl) (pe_tup (pa_cons (pe_op op_add (pe_callB call_len_seq (by rfl) B.len_ PySem.boot_len (pa_cons (pv 1) pa_nil)) pe_int) (pa_cons (pe_callTy call_tuple_of (by rfl) B.tuple_ boot_tuple (pa_cons (pe_lc (own := [("_law_k", 2)]) (g := gName 2) (tt := tYes) rfl scFarR.nd (pi_range1 (by rfl) B.range_ (pa_cons (pe_callB call_len_seq (by rfl) B.len_ PySem.boot_len (pa_cons (pv 1) pa_nil)) pa_nil)) (blkOk_by (N := nFarR) (sc := defScope sFarR) (by decide +kernel)) (fun _ _ _ _ _ => (pg_name (i := 2) scFarR.nd rfl (by first | exact Or.inl rfl | exact Or.inr rfl))) (fun _ _ _ _ _ => pts_nil) (fun _ _ _ _ _ => (pe_tup (pa_cons pe_int (pa_cons (pe_op op_add (pv 2) pe_int) (pa_cons (pe_ix (ix_listK (K := K) rfl) (pv 1) (pv 2) (fun _ _ => rfl)) (pa_cons (pe_tup pa_nil) (pa_cons (pe_tup pa_nil) pa_nil)))))))) pa_nil)) pa_nil))))
      (pss_cons (ps_set (i := 2) scFarR.nd rfl (by first | exact Or.inl rfl | exact Or.inr rfl) (pe_can CN (hr.mono (by decide)) (by rfl) (pa_cons (pv 0) (pa_cons (pe_callB call_len_seq (by rfl) B.len_ PySem.boot_len (pa_cons (pv 1) pa_nil)) pa_nil))))
      (pss_cons (ps_set (i := 4) scFarR.nd rfl (by first | exact Or.inl rfl | exact Or.inr rfl) (pe_op op_add pe_int (pe_can CN (hr.mono (by decide)) (by rfl) (pa_cons (pv 0) (pa_cons (pe_op op_sub (pe_ix ix_list (pv 1) (pv 2) (fun _ _ => rfl)) pe_int) pa_nil)))))
      (pss_cons (ps_set (i := 5) scFarR.nd rfl (by first | exact Or.inl rfl | exact Or.inr rfl) (pe_op op_add (pv 4) (pe_callB (cr_max rfl) (by rfl) B.max_ boot_max (pa_cons (pe_op op_cat (pe_slice sl_list (pv 1) po_none (po_some (pv 2))) (pe_slice sl_list (pv 1) (po_some (pe_op op_add (pv 2) pe_int)) po_none)) pa_nil))))
      (pss_cons (ps_set (i := 6) scFarR.nd rfl (by first | exact Or.inl rfl | exact Or.inr rfl) (pe_op op_sub (pe_ix ix_list (pv 1) (pv 2) (fun _ _ => rfl)) (pv 4)))
      (pss_cons (ps_for PassesOwn.never rfl (pi_list (pe_lst (pa_cons (pe_ix ix_list (pv 1) (pv 2) (fun _ _ => rfl)) (pa_cons (pe_op op_add (pe_ix ix_list (pv 1) (pv 2) (fun _ _ => rfl)) pe_int) (pa_cons (pv 5) (pa_cons (pe_op op_add (pv 5) pe_int) (pa_cons (pe_callB (call_max2 rfl) (by rfl) B.max_ boot_max (pa_cons pe_int (pa_cons (pv 6) pa_nil))) (pa_cons (pe_op op_add (pv 6) pe_int) (pa_cons (pe_op op_add pe_int (pe_can CN (hr.mono (by decide)) (by rfl) (pa_cons (pv 0) (pa_cons (pe_op op_pow pe_int pe_int) pa_nil)))) pa_nil))))))))) (pg_name (i := 7) scFarR.nd rfl (by first | exact Or.inl rfl | exact Or.inr rfl))
      (pss_cons (ps_setLc (i := 9) (own := [("_law_j", 8)]) (g := gName 8) rfl scFarR.nd rfl rfl (sw_true rfl rfl rfl (by decide +kernel)) (pi_range1 (by rfl) B.range_ (pa_cons (pe_callB call_len_seq (by rfl) B.len_ PySem.boot_len (pa_cons (pv 1) pa_nil)) pa_nil)) (blkOk_by (N := nFarR) (sc := defScope sFarR) (by decide +kernel)) (fun _ _ _ _ _ => (pg_name (i := 8) scFarR.nd rfl (by first | exact Or.inl rfl | exact Or.inr rfl))) (fun _ _ _ _ _ => pts_one (pt_cmpR op_ge (pe_ix (ix_listK (K := K) rfl) (pv 1) (pv 8) (fun _ _ => rfl)) (pv 7) (nomark _))) (fun _ _ _ _ _ => (pe_can CO (hr.mono (by decide)) (by rfl) (pa_cons (pv 3) (pa_cons (pv 8) (pa_cons pe_int pa_nil))))))
      (pss_cons (ps_if (pt_not (pt_val (pe_can CS (hr.mono (by decide)) (by rfl) (pa_cons (pe_can CL (hr.mono (by decide)) (by rfl) (pa_cons (pv 3) (pa_cons (pv 7) (pa_cons (pe_tup (pa_cons pe_int pa_nil)) pa_nil)))) (pa_cons (pe_callTy call_tuple_of (by rfl) B.tuple_ boot_tuple (pa_cons (pe_callB (cr_sortVI (hu10 hr)) (by rfl) B.sorted_ boot_sorted (pa_cons (pv 9) pa_nil)) pa_nil)) pa_nil))))) (pss_one (ps_ret pe_bl)) pss_nil)
      (pss_cons (ps_set (i := 9) scFarR.nd rfl (by first | exact Or.inl rfl | exact Or.inr rfl) (pe_op op_cat (pe_op op_rep (pe_lst (pa_cons (pe_can CO (hr.mono (by decide)) (by rfl) (pa_cons (pv 3) (pa_cons (pv 2) (pa_cons (pe_op op_sub (pv 4) pe_int) pa_nil)))) pa_nil)) (pe_callTy call_int1 (by rfl) B.int_ boot_int (pa_cons (pe_cmpR op_ge (pv 5) (pv 7) (nomark _)) pa_nil))) (pe_op op_rep (pe_lst (pa_cons (pe_can CO (hr.mono (by decide)) (by rfl) (pa_cons (pv 3) (pa_cons (pv 2) (pa_cons (pe_op op_add (pv 4) pe_int) pa_nil)))) pa_nil)) (pe_callTy call_int1 (by rfl) B.int_ boot_int (pa_cons (pe_cmpR op_ge (pv 6) (pv 7) (nomark _)) pa_nil)))))
      (pss_one (ps_if (pt_not (pt_val (pe_can CS (hr.mono (by decide)) (by rfl) (pa_cons (pe_can CL (hr.mono (by decide)) (by rfl) (pa_cons (pv 3) (pa_cons (pv 7) (pa_cons (pe_tup (pa_cons (pv 2) (pa_cons (pv 4) pa_nil))) pa_nil)))) (pa_cons (pe_callTy call_tuple_of (by rfl) B.tuple_ boot_tuple (pa_cons (pe_callB (cr_sortVI (hu10 hr)) (by rfl) B.sorted_ boot_sorted (pa_cons (pv 9) pa_nil)) pa_nil)) pa_nil))))) (pss_one (ps_ret pe_bl)) pss_nil))))))
      (pss_one (ps_ret pe_bl)))))))), ?_⟩
    refine ⟨.ref D, rfl, D, G, b, rfl, dk, hb, fun H1 L arms kp1 dk1 fL eL l3 l5 hA => ?_⟩
    have big : ∀ k : Nat, k < arms.length → 2 ≤ arms.getD k 0 := fun k h => (hA _ (List.mem_of_getElem? (getD_at h))).1
    have top : ∀ k : Nat, k < arms.length → arms.getD k 0 ≤ 1000000000000 := fun k h => (hA _ (List.mem_of_getElem? (getD_at h))).2
    have la : (((arms.map V.int).length : Nat) : Int) = (arms.length : Int) := by rw [List.length_map]
    have zL := dk.nes fL
    have at_ : ∀ {k : Nat}, k < arms.length → (arms.map V.int)[k]? = some (.int (arms.getD k 0)) := fun {k} h => by rw [List.getElem?_map, getD_at h]; rfl
    refine ⟨.ref L, rfl, L, _, rfl, .inl (SqL.of eL), _, 1, rfl, rfl, .ref L, rfl, L, _, rfl, .inl (SqL.of eL), _, rfl, by omega, by omega, fun W nW => ?_⟩
    rw [la]
    refine lc_range (lo := 0) (n := (arms.length : Int).toNat) (fun i J => Keep [] H1 J ∧ Tr [W, D, G] J ∧ ∃ us : List V, J W = some (.lst us) ∧ us.length = i ∧ Dts [W, D, G] J us (((List.range i).map (starPi arms)).map Pi.dat))
      ⟨Keep.new nW, (dk1.tr.upd).cons upd_same, [], upd_same, rfl, .nil⟩ (fun i J hi p => ?_) (fun J p => ?_)
    · obtain ⟨kJ, tJ, us, eW, lu, du⟩ := p
      have hi' : i < arms.length := by omega
      have i0 : (0 + (i : Int)) = (i : Int) := by omega
      refine ⟨rfl, .int (0 + (i : Int)), rfl, _, 1, rfl, rfl, .ref L, rfl, .int (0 + (i : Int)), rfl, L, _, _, .int (arms.getD i 0), rfl, rfl, SqL.of (kJ L _ eL List.not_mem_nil), by rw [i0]; exact atI_nat (at_ hi'), show 0 ≤ sizeLine by decide, fun r1 n1 => ?_⟩
      obtain ⟨k1, t1, e1⟩ := tup_facts tJ .nil n1
      generalize upd _ r1 (.tup _) = J1 at k1 t1 e1 ⊢
      refine ⟨show 0 ≤ sizeLine by decide, fun r2 n2 => ?_⟩
      obtain ⟨k2, t2, e2⟩ := tup_facts t1 .nil n2
      generalize upd _ r2 (.tup _) = J2 at k2 t2 e2 ⊢
      refine ⟨show 5 ≤ sizeLine by decide, fun r3 n3 => ?_⟩
      obtain ⟨k3, t3, e3⟩ := tup_facts t2 (.cons (.int 0) (.cons (.int (0 + (i : Int) + 1)) (.cons (.int (arms.getD i 0)) (.cons (e1.keep k2.of) (.cons e2 .nil))))) n3
      generalize upd _ r3 (.tup _) = J3 at k3 t3 e3 ⊢
      have k13 : Keep [] J J3 := k1.trans (k2.trans k3)
      refine ⟨us, k13 W _ eW List.not_mem_nil, by rw [lu]; exact small1000 (by omega), (kJ.trans k13).upd nW, t3.upd, us ++ [.ref r3], upd_same, by rw [List.length_append, lu]; rfl, ?_⟩
      rw [List.range_succ, List.map_append, List.map_append]
      rw [i0] at e3
      exact ((du.keep k13.of).app (.cons e3 .nil)).keep (Keep.put List.mem_cons_self)
    · obtain ⟨kJ, tJ, us, eW, lu, du⟩ := p
      rw [show (arms.length : Int).toNat = arms.length by omega] at du lu
      have tav : Tr [D, G] J := fun a m => tJ a (List.mem_cons_of_mem _ m)
      refine ⟨W, us, rfl, .inl ⟨SqL.of eW, fun R nR => ?_⟩⟩
      have dR : Dt [D, G] (upd J R (.tup us)) (.ref R) (.tuple ((starP arms).map Pi.dat)) := .tup (tav.not nR) upd_same ((du.less fun a m => List.mem_cons_of_mem _ m).keep (Keep.new nR))
      refine ⟨show 2 ≤ sizeLine by decide, fun hs nhs => ?_⟩
      obtain ⟨k4, t4, e4⟩ := tup_facts (tav.upd) (.cons (.int ((arms.length : Int) + 1)) (.cons dR .nil)) nhs
      have kJ4 := kJ.trans ((Keep.new (av := []) (o := .tup us) nR).trans k4)
      generalize upd (upd J R (.tup us)) hs (.tup _) = H2 at k4 t4 e4 kJ4 ⊢
      have dh : Dt [D, G] H2 (.ref hs) (houseD ((arms.length : Int) + 1) ((starP arms).map Pi.dat)) := e4
      have dk2 := dk1.keep kJ4
      have eL2 := kJ4 L _ eL List.not_mem_nil
      have hk : HouseOk ((arms.length : Int) + 1) (starP arms) := ⟨by omega, by omega, by rw [star_len]; omega, fun p hp => by
        obtain ⟨k, hk, rfl⟩ := List.mem_map.mp hp
        have hk := List.mem_range.mp hk
        have b2 := big k hk
        have t2 := top k hk
        exact ⟨Int.le_refl 0, by show (0 : Int) ≤ _; omega, by show (0 : Int) ≤ (k : Int) + 1; omega, by show (k : Int) + 1 ≤ _; omega, by show (0 : Int) < (k : Int) + 1; omega, ⟨by show 1 ≤ arms.getD k 0; omega, t2, .nil, fun _ z => absurd z List.not_mem_nil, .nil, fun _ z => absurd z List.not_mem_nil, by simp [starPi], by simp [starPi]⟩⟩⟩
      obtain ⟨d, T⟩ := tree (by omega) hk.len (fun p m => by have z := hk.ok p m; exact ⟨z.x0, by have := z.x1; omega, z.y0, by have := z.y1; omega, z.fit.l1⟩) (star_con arms)
      refine ⟨.ref D, rfl, .ref L, rfl, L, _, rfl, .inl (SqL.of eL2), D, G, _, _, rfl, by omega, by omega, dk2, by omega, fun H3 kx kp3 dk3 kx0 kx1 => ?_⟩
      obtain ⟨k, rfl⟩ : ∃ k : Nat, kx = (k : Int) := ⟨kx.toNat, by omega⟩
      have hk3 : k < arms.length := by omega
      have eL3 := kp3 L _ eL2 (not2 zL)
      have bk := big k hk3
      have tk := top k hk3
      have ixk : atI (arms.map V.int) (k : Int) = some (.int (arms.getD k 0)) := atI_nat (at_ hk3)
      refine ⟨.ref D, rfl, .ref L, rfl, .int (k : Int), rfl, L, _, _, _, rfl, rfl, SqL.of eL3, ixk, _, 1, rfl, rfl, D, G, _, _, rfl, by omega, by omega, dk3, by omega, fun H4 ax kp4 dk4 ax0 ax1 => ⟨1, ax, rfl, rfl, ?_⟩⟩
      have a0 : 1 ≤ 1 + ax := by omega
      have a1 : 1 + ax ≤ arms.getD k 0 - 1 := by omega
      dsimp only
      generalize 1 + ax = a at a0 a1
      have eL4 := kp4 L _ eL3 (not2 zL)
      have dh4 := (dh.keep kp3).keep kp4
      refine ⟨.int a, rfl, .ref L, rfl, .int (k : Int), rfl, (k : Int), rfl, L, _, rfl, SqL.of eL4, fun S1 nS1 => ?_⟩
      rw [cut_to, ← List.map_take]
      have e1 : (upd H4 S1 (.lst ((arms.take k).map V.int))) S1 = some (.lst ((arms.take k).map V.int)) := upd_same
      have k5 : Keep [] H4 (upd H4 S1 (.lst ((arms.take k).map V.int))) := Keep.new nS1
      generalize upd H4 S1 (.lst ((arms.take k).map V.int)) = H5 at e1 k5 ⊢
      refine ⟨.ref L, rfl, .int (k : Int), rfl, (k : Int), 1, rfl, rfl, _, rfl, L, _, rfl, SqL.of (k5 L _ eL4 List.not_mem_nil), fun S2 nS2 => ?_⟩
      rw [show ((k : Int) + 1) = ((k + 1 : Nat) : Int) by omega, cut_from, ← List.map_drop]
      have e2 : (upd H5 S2 (.lst ((arms.drop (k + 1)).map V.int))) S2 = some (.lst ((arms.drop (k + 1)).map V.int)) := upd_same
      have k6 : Keep [] H5 (upd H5 S2 (.lst ((arms.drop (k + 1)).map V.int))) := Keep.new nS2
      have e1' := k6 S1 _ e1 List.not_mem_nil
      generalize upd H5 S2 (.lst ((arms.drop (k + 1)).map V.int)) = H6 at e2 k6 e1' ⊢
      refine ⟨S1, S2, _, _, rfl, rfl, e1', e2, by rw [List.length_map, List.length_map, List.length_take, List.length_drop]; exact Nat.le_trans (by omega : _ ≤ 1000) (show 1000 ≤ sizeLine by decide), fun S3 nS3 => ?_⟩
      rw [← List.map_append]
      have e3 : (upd H6 S3 (.lst ((arms.take k ++ arms.drop (k + 1)).map V.int))) S3 = some (.lst ((arms.take k ++ arms.drop (k + 1)).map V.int)) := upd_same
      have k7 : Keep [] H6 (upd H6 S3 (.lst ((arms.take k ++ arms.drop (k + 1)).map V.int))) := Keep.new nS3
      generalize upd H6 S3 (.lst ((arms.take k ++ arms.drop (k + 1)).map V.int)) = H7 at e3 k7 ⊢
      refine ⟨S3, _, rfl, SqL.of e3, by rw [List.length_append, List.length_take, List.length_drop]; omega, fun M hM hle => ⟨a, M, rfl, rfl, ?_⟩⟩
      have hM' := (others_at hk3 M).mp hM
      have up : ∀ j : Nat, j < arms.length → j ≠ k → arms.getD j 0 ≤ M := fun j hj ne => by
        have := hle _ ((others_at hk3 _).mpr ⟨j, hj, ne, rfl⟩)
        omega
      have k47 := k5.trans (k6.trans k7)
      have eL7 := k47 L _ eL4 List.not_mem_nil
      refine ⟨.ref L, rfl, .int (k : Int), rfl, L, _, _, _, rfl, rfl, SqL.of eL7, ixk, .int a, rfl, _, a, rfl, rfl, ?_⟩
      have dh7 := dh4.keep k47.of
      have dk7 := dk4.keep k47
      refine ⟨.ref L, rfl, .int (k : Int), rfl, L, _, _, _, rfl, rfl, SqL.of eL7, ixk, .ref L, rfl, .int (k : Int), rfl, L, _, _, _, rfl, rfl, SqL.of eL7, ixk, _, 1, rfl, rfl, .int (a + M), rfl, .int (a + M), rfl, _, 1, rfl, rfl, .int (arms.getD k 0 - a), rfl, 1, _, rfl, .int (arms.getD k 0 - a), rfl, _, 1, rfl, rfl, .ref D, rfl, 10, 12, rfl, rfl, ⟨by decide, by decide, by decide⟩, D, G, _, _, rfl, by decide, by decide, dk7, by omega, fun H8 xl kp8 dk8 _ _ => ⟨1, xl, rfl, rfl, show 7 ≤ sizeLine by decide, fun Lz nLz => ?_⟩⟩
      obtain ⟨lens, elens⟩ : ∃ lens : List Int, lens = [arms.getD k 0, arms.getD k 0 + 1, a + M, a + M + 1, (if arms.getD k 0 - a > 1 then arms.getD k 0 - a else 1), arms.getD k 0 - a + 1, 1 + xl] := ⟨_, rfl⟩
      have kz : Keep [] H8 (upd H8 Lz (.lst (lens.map V.int))) := Keep.new nLz
      have ez : (upd H8 Lz (.lst (lens.map V.int))) Lz = some (.lst (lens.map V.int)) := upd_same
      have dh8 : Dt [] (upd H8 Lz (.lst (lens.map V.int))) (.ref hs) (houseD ((arms.length : Int) + 1) ((starP arms).map Pi.dat)) := (show Dt [] H8 (.ref hs) (houseD ((arms.length : Int) + 1) ((starP arms).map Pi.dat)) from (dh7.keep kp8).less (fun _ m => nomatch m)).keep kz
      have eL8 := kz L _ (kp8 L _ eL7 (not2 zL)) List.not_mem_nil
      have hU : upd H8 Lz (.lst (lens.map V.int)) = upd H8 Lz (.lst [.int (arms.getD k 0), .int (arms.getD k 0 + 1), .int (a + M), .int (a + M + 1), .int (if arms.getD k 0 - a > 1 then arms.getD k 0 - a else 1), .int (arms.getD k 0 - a + 1), .int (1 + xl)]) := by rw [elens]; rfl
      rw [hU] at kz ez dh8 eL8
      generalize upd H8 Lz (.lst [.int (arms.getD k 0), .int (arms.getD k 0 + 1), .int (a + M), .int (a + M + 1), .int (if arms.getD k 0 - a > 1 then arms.getD k 0 - a else 1), .int (arms.getD k 0 - a + 1), .int (1 + xl)]) = Hz at kz ez dh8 eL8 ⊢
      clear hU
      have tr0 : ∀ M : Hp, Tr [] M := fun M _ m => nomatch m
      refine ⟨Lz, rfl, ⟨_, SqL.of ez⟩, ?_⟩
      refine for_list (K := K) (a := Lz) (xs := lens.map V.int) (fun j σ J => ∃ s7 s8 s9, σ = [some (.ref D), some (.ref L), some (.int (k : Int)), some (.ref hs), some (.int a), some (.int (a + M)), some (.int (arms.getD k 0 - a)), s7, s8, s9] ∧ Keep [] Hz J) ⟨_, _, _, rfl, Keep.refl _ _⟩ (fun j σ J _ p => ?_) (fun j x σ J hx p => ?_) (fun σ J p => ?_)
      · obtain ⟨_, _, _, _, kJ⟩ := p
        exact SqL.of (kJ Lz _ ez List.not_mem_nil)
      · obtain ⟨s7, s8, s9, rfl, kJ⟩ := p
        rw [List.getElem?_map] at hx
        obtain ⟨ln, gl, rfl⟩ := Option.map_eq_some_iff.mp hx
        have eLJ := kJ L _ eL8 List.not_mem_nil
        have dhJ := dh8.keep kJ
        refine ⟨.ref L, rfl, L, _, rfl, .inl (SqL.of eLJ), _, rfl, by omega, by omega, fun W nW => ?_⟩
        have dhW := dhJ.more nW
        rw [la]
        refine lc_range (lo := 0) (n := (arms.length : Int).toNat) (fun i N => Keep [] J N ∧ Tr [W] N ∧ ∃ us : List V, N W = some (.lst us) ∧ us.length ≤ i ∧ Dts [W] N us ((((List.range i).filter fun j => decide (arms.getD j 0 ≥ ln)).map fun j : Nat => nm (starP arms) (j : Int) 1).map tupI))
          ⟨Keep.new nW, (tr0 _).cons upd_same, [], upd_same, Nat.le_refl _, .nil⟩ (fun i N hi p => ?_) (fun N p => ?_)
        · obtain ⟨kN, tN, us, eW, lu, du⟩ := p
          have hi' : i < arms.length := by omega
          have i0 : (0 + (i : Int)) = (i : Int) := by omega
          refine ⟨rfl, .ref L, rfl, .int (0 + (i : Int)), rfl, L, _, _, .int (arms.getD i 0), rfl, rfl, SqL.of (kN L _ eLJ List.not_mem_nil), by rw [i0]; exact atI_nat (at_ hi'), .int ln, rfl, _, ln, rfl, rfl, _, rfl, ?_⟩
          by_cases c : arms.getD i 0 ≥ ln
          · rw [decide_eq_true c]
            refine iteT ?_
            refine ⟨.ref hs, rfl, .int (0 + (i : Int)), rfl, .ref hs, _, 0 + (i : Int), 1, starP arms, [W], rfl, dhW.keep kN.of, by omega, by rw [star_len]; omega, tN, fun N2 r k2 _ dr t2 => ?_⟩
            refine ⟨us, k2 W _ eW List.not_mem_nil, Nat.lt_of_lt_of_le (by omega : us.length < 1001) (show 1001 ≤ sizeLine by decide), (kN.trans k2).upd nW, t2.upd, us ++ [.ref r], upd_same, by rw [List.length_append]; show us.length + 1 ≤ _; omega, ?_⟩
            rw [List.range_succ, List.filter_append, show [i].filter (fun j => decide (arms.getD j 0 ≥ ln)) = [i] by rw [List.filter_cons, decide_eq_true c]; rfl, List.map_append, List.map_append]
            rw [i0] at dr
            exact ((du.keep k2.of).app (.cons dr .nil)).keep (Keep.put List.mem_cons_self)
          · rw [decide_eq_false c]
            refine iteF ?_
            refine ⟨kN, tN, us, eW, by omega, ?_⟩
            rw [List.range_succ, List.filter_append, show [i].filter (fun j => decide (arms.getD j 0 ≥ ln)) = [] by rw [List.filter_cons, decide_eq_false c]; rfl, List.append_nil]
            exact du
        · obtain ⟨kN, tN, us, eW, lu, du⟩ := p
          rw [show (arms.length : Int).toNat = arms.length by omega] at du lu
          have kzN := kJ.trans kN
          refine ⟨.ref hs, rfl, .int ln, rfl, show 1 ≤ sizeLine by decide, fun R nR => ?_⟩
          obtain ⟨kR, _, eR⟩ := tup_facts (tr0 N) (.cons (.int 0) .nil) nR
          generalize upd _ R (.tup _) = N1 at kR eR ⊢
          refine ⟨.ref hs, .ref R, _, ln, starP arms, d, [0], [], rfl, (dh8.keep kzN).keep kR, hk, T, eR, ⟨by omega, by omega⟩, tr0 _, fun N2 r2 k2 _ d2 => ?_⟩
          have kN2 := kR.trans k2
          have du0 : Dts [] N us ((((List.range arms.length).filter fun j => decide (arms.getD j 0 ≥ ln)).map fun j : Nat => nm (starP arms) (j : Int) 1).map tupI) := du.less (fun _ m => nomatch m)
          refine ⟨.ref W, rfl, ?_⟩
          dsimp only [tNil]
          refine sort_places (kN2 W _ eW List.not_mem_nil) (du0.keep kN2) (fun q hq => by obtain ⟨j, _, rfl⟩ := List.mem_map.mp hq; exact nm_ne _ _ _) (by omega) (fun N3 S vs k3 eS dS => ?_)
          refine ⟨S, vs, rfl, .inl ⟨SqL.of eS, fun R2 nR2 => ?_⟩⟩
          have kR2 : Keep [] N3 (upd N3 R2 (.tup vs)) := Keep.new nR2
          rw [star_long T big (by omega)] at d2
          refine ⟨.ref r2, .ref R2, _, rfl, (d2.keep k3).keep kR2, .tup List.not_mem_nil upd_same (dS.keep kR2), ?_, fun N4 k4 => ⟨_, rfl, iteF ?_⟩⟩
          · refine IT.places _ ?_ (fun p hp => ?_)
            · have := dS.len
              have l2 : (sortL (((List.range arms.length).filter fun j => decide (arms.getD j 0 ≥ ln)).map fun j : Nat => nm (starP arms) (j : Int) 1)).length = us.length := by
                unfold sortL; rw [List.length_mergeSort, ← List.length_map (f := tupI), ← du.len]
              omega
            · have := (List.mergeSort_perm _ leI).mem_iff.mp hp
              obtain ⟨j, _, rfl⟩ := List.mem_map.mp this
              exact nm_short _ _ _
          have kz4 := kzN.trans (kN2.trans (k3.trans (kR2.trans k4)))
          have ek : (k : Int) < (starP arms).length := by rw [star_len]; omega
          refine ⟨.ref hs, rfl, .int (k : Int), rfl, .int a, rfl, a, 1, rfl, rfl, .ref hs, _, (k : Int), a - 1, starP arms, [], rfl, dh8.keep kz4, by omega, ek, tr0 _, fun N5 r5 k5 _ d5 _ => ⟨show 1 ≤ sizeLine by decide, fun l5 nl5 => ?_⟩⟩
          have kl5 : Keep [] N5 (upd N5 l5 (.lst [.ref r5])) := Keep.new nl5
          have el5 : (upd N5 l5 (.lst [.ref r5])) l5 = some (.lst [.ref r5]) := upd_same
          generalize upd N5 l5 (.lst [.ref r5]) = N6 at kl5 el5 ⊢
          refine ⟨.int (a + M), rfl, .int ln, rfl, _, ln, rfl, rfl, .inr ⟨_, rfl, l5, _, _, rfl, rfl, el5, by split <;> decide, by split <;> decide, by split <;> first | exact (show 1 * 1 ≤ sizeLine by decide) | exact (show 1 * 0 ≤ sizeLine by decide), fun y1 ny1 => ?_⟩⟩
          rw [rep01]
          have ky1 : Keep [] N6 (upd N6 y1 (.lst (if decide (a + M ≥ ln) = true then [.ref r5] else []))) := Keep.new ny1
          have ey1 : (upd N6 y1 (.lst (if decide (a + M ≥ ln) = true then [.ref r5] else []))) y1 = some (.lst (if decide (a + M ≥ ln) = true then [.ref r5] else [])) := upd_same
          generalize upd N6 y1 (.lst (if decide (a + M ≥ ln) = true then [.ref r5] else [])) = N7 at ky1 ey1 ⊢
          have k57 := kl5.trans ky1
          have kz7 := kz4.trans (k5.trans k57)
          refine ⟨.ref hs, rfl, .int (k : Int), rfl, .int a, rfl, a, 1, rfl, rfl, .ref hs, _, (k : Int), a + 1, starP arms, [], rfl, dh8.keep kz7, by omega, ek, tr0 _, fun N8 r8 k8 _ d8 _ => ⟨show 1 ≤ sizeLine by decide, fun l8 nl8 => ?_⟩⟩
          have kl8 : Keep [] N8 (upd N8 l8 (.lst [.ref r8])) := Keep.new nl8
          have el8 : (upd N8 l8 (.lst [.ref r8])) l8 = some (.lst [.ref r8]) := upd_same
          generalize upd N8 l8 (.lst [.ref r8]) = N9 at kl8 el8 ⊢
          refine ⟨.int (arms.getD k 0 - a), rfl, .int ln, rfl, _, ln, rfl, rfl, .inr ⟨_, rfl, l8, _, _, rfl, rfl, el8, by split <;> decide, by split <;> decide, by split <;> first | exact (show 1 * 1 ≤ sizeLine by decide) | exact (show 1 * 0 ≤ sizeLine by decide), fun y2 ny2 => ?_⟩⟩
          rw [rep01]
          have ky2 : Keep [] N9 (upd N9 y2 (.lst (if decide (arms.getD k 0 - a ≥ ln) = true then [.ref r8] else []))) := Keep.new ny2
          have ey2 : (upd N9 y2 (.lst (if decide (arms.getD k 0 - a ≥ ln) = true then [.ref r8] else []))) y2 = some (.lst (if decide (arms.getD k 0 - a ≥ ln) = true then [.ref r8] else [])) := upd_same
          generalize upd N9 y2 (.lst (if decide (arms.getD k 0 - a ≥ ln) = true then [.ref r8] else [])) = N10 at ky2 ey2 ⊢
          have k8x := kl8.trans ky2
          have k710 := k8.trans k8x
          have ey1x := k710 y1 _ ey1 List.not_mem_nil
          refine ⟨y1, y2, _, _, rfl, rfl, ey1x, ey2, by split <;> split <;> first | exact (show 1 + 1 ≤ sizeLine by decide) | exact (show 1 + 0 ≤ sizeLine by decide) | exact (show 0 + 1 ≤ sizeLine by decide) | exact (show 0 + 0 ≤ sizeLine by decide), fun y3 ny3 => ?_⟩
          have duT : Dts [] N10 ((if decide (a + M ≥ ln) = true then [V.ref r5] else []) ++ (if decide (arms.getD k 0 - a ≥ ln) = true then [V.ref r8] else [])) (((if a + M ≥ ln then [nm (starP arms) (k : Int) (a - 1)] else []) ++ (if arms.getD k 0 - a ≥ ln then [nm (starP arms) (k : Int) (a + 1)] else [])).map tupI) := by
            rw [List.map_append]
            refine Dts.app ?_ ?_
            · by_cases c : a + M ≥ ln
              · rw [if_pos (decide_eq_true c), if_pos c]; exact .cons (d5.keep (k57.trans k710)) .nil
              · rw [if_neg (fun z => c (of_decide_eq_true z)), if_neg c]; exact .nil
            · by_cases c : arms.getD k 0 - a ≥ ln
              · rw [if_pos (decide_eq_true c), if_pos c]; exact .cons (d8.keep k8x) .nil
              · rw [if_neg (fun z => c (of_decide_eq_true z)), if_neg c]; exact .nil
          have lT : ((if decide (a + M ≥ ln) = true then [V.ref r5] else []) ++ (if decide (arms.getD k 0 - a ≥ ln) = true then [V.ref r8] else [])).length ≤ 1000 := by split <;> split <;> simp
          generalize (if decide (a + M ≥ ln) = true then [V.ref r5] else []) ++ (if decide (arms.getD k 0 - a ≥ ln) = true then [V.ref r8] else []) = us2 at duT lT ny3 ⊢
          have ky3 : Keep [] N10 (upd N10 y3 (.lst us2)) := Keep.new ny3
          have ey3 : (upd N10 y3 (.lst us2)) y3 = some (.lst us2) := upd_same
          generalize upd N10 y3 (.lst us2) = N11 at ky3 ey3 ⊢
          have kz11 := kz7.trans (k710.trans ky3)
          refine ⟨.ref hs, rfl, .int ln, rfl, .int (k : Int), rfl, .int a, rfl, show 2 ≤ sizeLine by decide, fun R3 nR3 => ?_⟩
          obtain ⟨kR3, _, eR3⟩ := tup_facts (tr0 N11) (.cons (.int (k : Int)) (.cons (.int a) .nil)) nR3
          generalize upd _ R3 (.tup _) = N12 at kR3 eR3 ⊢
          have okm : okP ((arms.length : Int) + 1) (starP arms) [(k : Int), a] := ⟨by omega, ek, a0, by rw [star_pr hk3]; exact a1⟩
          refine ⟨.ref hs, .ref R3, _, ln, starP arms, d, [(k : Int), a], [], rfl, (dh8.keep kz11).keep kR3, hk, T, eR3, okm, tr0 _, fun N13 r13 k13 _ d13 => ?_⟩
          have kx := kR3.trans k13
          have hne : ∀ q ∈ (if a + M ≥ ln then [nm (starP arms) (k : Int) (a - 1)] else []) ++ (if arms.getD k 0 - a ≥ ln then [nm (starP arms) (k : Int) (a + 1)] else []), q = nm (starP arms) (k : Int) (a - 1) ∨ q = nm (starP arms) (k : Int) (a + 1) := fun q hq => by
            rcases List.mem_append.mp hq with m | m
            · split at m
              · exact .inl (List.mem_singleton.mp m)
              · exact absurd m List.not_mem_nil
            · split at m
              · exact .inr (List.mem_singleton.mp m)
              · exact absurd m List.not_mem_nil
          refine ⟨.ref y3, rfl, ?_⟩
          dsimp only [tNil]
          refine sort_places (kx y3 _ ey3 List.not_mem_nil) ((duT.keep ky3).keep kx) (fun q hq => by rcases hne q hq with rfl | rfl <;> exact nm_ne _ _ _) lT (fun N14 S vs k14 eS dS => ?_)
          refine ⟨S, vs, rfl, .inl ⟨SqL.of eS, fun R4 nR4 => ?_⟩⟩
          have kR4 : Keep [] N14 (upd N14 R4 (.tup vs)) := Keep.new nR4
          rw [star_mid T big hk3 a0 a1 hM' up] at d13
          refine ⟨.ref r13, .ref R4, _, rfl, (d13.keep k14).keep kR4, .tup List.not_mem_nil upd_same (dS.keep kR4), ?_, fun N15 k15 => ⟨_, rfl, iteF ?_⟩⟩
          · refine IT.places _ ?_ (fun p hp => ?_)
            · have := duT.len
              unfold sortL
              rw [List.length_mergeSort]
              rw [List.length_map] at this
              omega
            · rcases hne p ((List.mergeSort_perm _ leI).mem_iff.mp hp) with rfl | rfl <;> exact nm_short _ _ _
          · exact ⟨_, _, _, rfl, kz11.trans (kx.trans (k14.trans (kR4.trans k15)))⟩
      · exact q _
end
end Rw

namespace Rw
/-! ### rows of places, piece by piece: a piece is [pipe, begin, stop] -/
def plen (c : List Int) : Int := ab (c.getD 1 0) (c.getD 2 0)
def pat (c : List Int) (k : Int) : Int := if c.getD 1 0 < c.getD 2 0 then c.getD 1 0 + k else c.getD 1 0 - k
def ptot : List (List Int) → Int
  | [] => 0
  | c :: r => plen c + ptot r
def PcOk (ps : List Pi) (c : List Int) : Prop := ∃ i b e : Int, c = [i, b, e] ∧ 0 ≤ i ∧ i < ps.length ∧ 0 ≤ b ∧ b ≤ (pr ps i).l ∧ 0 ≤ e ∧ e ≤ (pr ps i).l
def beg (ps : List Pi) (c : List Int) : Pl := nm ps (c.getD 0 0) (c.getD 1 0)
def fin' (ps : List Pi) (c : List Int) : Pl := nm ps (c.getD 0 0) (c.getD 2 0)
inductive Chn (ps : List Pi) : Pl → List (List Int) → Pl → Prop
  | nil (p : Pl) : Chn ps p [] p
  | cons {c : List Int} {r : List (List Int)} {q : Pl} : PcOk ps c → Chn ps (fin' ps c) r q → Chn ps (beg ps c) (c :: r) q
theorem Chn.snoc {ps : List Pi} {p q : Pl} {r : List (List Int)} (h : Chn ps p r q) : ∀ {c : List Int}, PcOk ps c → q = beg ps c → Chn ps p (r ++ [c]) (fin' ps c) := by
  induction h with
  | nil p =>
    intro c ok e
    subst e
    exact .cons ok (.nil _)
  | cons ok' _ ih =>
    intro c ok e
    exact .cons ok' (ih ok e)
theorem ptot_snoc (r : List (List Int)) (c : List Int) : ptot (r ++ [c]) = ptot r + plen c := by
  induction r with
  | nil => show plen c + 0 = 0 + plen c; omega
  | cons a r ih => show plen a + ptot (r ++ [c]) = plen a + ptot r + plen c; rw [ih]; omega
def along (ps : List Pi) : List (List Int) → Int → Pl
  | [], _ => []
  | [c], k => nm ps (c.getD 0 0) (pat c k)
  | c :: r, k => if k ≤ plen c then nm ps (c.getD 0 0) (pat c k) else along ps r (k - plen c)
section
variable {n : Int} {ps : List Pi} {d : Int → Int → Int} (T : Tm n ps d)
include T
theorem nm_dist {i a b : Int} (h0 : 0 ≤ i) (h1 : i < ps.length) (a0 : 0 ≤ a) (a1 : a ≤ (pr ps i).l) (b0 : 0 ≤ b) (b1 : b ≤ (pr ps i).l) : Dp ps d (nm ps i a) (nm ps i b) = ab a b := by
  have oa := ok_nm T h0 h1 a0 a1
  obtain ⟨f0, f1, _, f⟩ := foot_at T oa h0 h1
  have e1 := f a a0 a1
  have e2 := f b b0 b1
  rw [Dp_self T oa] at e1
  have nn := Dp_nn T oa (ok_nm T h0 h1 f0 f1)
  unfold ab at *
  split at e1 <;> split at e2 <;> split <;> omega
theorem chn_ok {p q : Pl} {r : List (List Int)} (h : Chn ps p r q) (hq : okP n ps q) : okP n ps p := by
  cases h with
  | nil => exact hq
  | cons ok _ =>
    obtain ⟨i, b, e, rfl, h0, h1, b0, b1, e0, e1⟩ := ok
    exact ok_nm T h0 h1 b0 b1
theorem plen_nn {c : List Int} : 0 ≤ plen c := by unfold plen ab; split <;> omega
theorem chn_le {p q : Pl} {r : List (List Int)} (h : Chn ps p r q) (hq : okP n ps q) : Dp ps d p q ≤ ptot r := by
  induction h with
  | nil p => rw [Dp_self T hq]; exact Int.le_refl 0
  | @cons c r q ok h ih =>
    have okr := chn_ok T h hq
    have i1 := ih hq
    obtain ⟨i, b, e, rfl, h0, h1, b0, b1, e0, e1⟩ := ok
    have okp := ok_nm T h0 h1 b0 b1
    have t := Dp_le T okp okr hq
    have ed : Dp ps d (nm ps i b) (nm ps i e) = ab b e := nm_dist T h0 h1 b0 b1 e0 e1
    show Dp ps d (nm ps i b) q ≤ ab b e + ptot r
    have t' : Dp ps d (nm ps i b) q ≤ Dp ps d (nm ps i b) (nm ps i e) + Dp ps d (nm ps i e) q := t
    have i1' : Dp ps d (nm ps i e) q ≤ ptot r := i1
    omega
/-! within a piece -/
theorem pat_in {i b e k : Int} (h0 : 0 ≤ i) (h1 : i < ps.length) (b0 : 0 ≤ b) (b1 : b ≤ (pr ps i).l) (e0 : 0 ≤ e) (e1 : e ≤ (pr ps i).l) (k0 : 0 ≤ k) (k1 : k ≤ ab b e) :
    okP n ps (nm ps i (pat [i, b, e] k)) ∧ Dp ps d (nm ps i b) (nm ps i (pat [i, b, e] k)) = k ∧ Dp ps d (nm ps i (pat [i, b, e] k)) (nm ps i e) = ab b e - k := by
  have ep : pat [i, b, e] k = if b < e then b + k else b - k := rfl
  have r0 : 0 ≤ pat [i, b, e] k := by rw [ep]; unfold ab at k1; split at k1 <;> split <;> omega
  have r1 : pat [i, b, e] k ≤ (pr ps i).l := by rw [ep]; unfold ab at k1; split at k1 <;> split <;> omega
  refine ⟨ok_nm T h0 h1 r0 r1, ?_, ?_⟩
  · rw [nm_dist T h0 h1 b0 b1 r0 r1, ep]
    unfold ab at *
    split at k1 <;> split <;> split <;> omega
  · rw [nm_dist T h0 h1 r0 r1 e0 e1, ep]
    unfold ab at *
    split at k1 <;> split <;> split <;> omega
theorem along_at {p q : Pl} {r : List (List Int)} (h : Chn ps p r q) : ∀ (hq : okP n ps q) (ht : ptot r = Dp ps d p q) {k : Int} (k0 : 1 ≤ k) (k1 : k ≤ ptot r),
    okP n ps (along ps r k) ∧ Dp ps d p (along ps r k) = k ∧ Dp ps d (along ps r k) q = ptot r - k := by
  induction h with
  | nil p =>
    intro hq ht k k0 k1
    have : ptot [] = 0 := rfl
    omega
  | @cons c r q ok h ih =>
    intro hq ht k k0 k1
    have okr := chn_ok T h hq
    have le := chn_le T h hq
    obtain ⟨i, b, e, rfl, h0, h1, b0, b1, e0, e1⟩ := ok
    have okp : okP n ps (nm ps i b) := ok_nm T h0 h1 b0 b1
    have ed : Dp ps d (nm ps i b) (nm ps i e) = ab b e := nm_dist T h0 h1 b0 b1 e0 e1
    have okr' : okP n ps (nm ps i e) := okr
    have le' : Dp ps d (nm ps i e) q ≤ ptot r := le
    have t := Dp_le T okp okr' hq
    have pt : ptot ([i, b, e] :: r) = ab b e + ptot r := rfl
    have ht' : ab b e + ptot r = Dp ps d (nm ps i b) q := ht
    have er : ptot r = Dp ps d (nm ps i e) q := by omega
    have near : k ≤ ab b e → okP n ps (nm ps i (pat [i, b, e] k)) ∧ Dp ps d (nm ps i b) (nm ps i (pat [i, b, e] k)) = k ∧ Dp ps d (nm ps i (pat [i, b, e] k)) q = ptot ([i, b, e] :: r) - k := fun c => by
      obtain ⟨z1, z2, z3⟩ := pat_in T h0 h1 b0 b1 e0 e1 (k := k) (by omega) c
      refine ⟨z1, z2, ?_⟩
      have t1 := Dp_le T z1 okr' hq
      have t2 := Dp_le T okp z1 hq
      omega
    cases r with
    | nil =>
      have pn : ptot [] = 0 := rfl
      exact near (by omega)
    | cons c2 r2 =>
      have ea : along ps ([i, b, e] :: c2 :: r2) k = if k ≤ plen [i, b, e] then nm ps i (pat [i, b, e] k) else along ps (c2 :: r2) (k - plen [i, b, e]) := rfl
      have pl : plen [i, b, e] = ab b e := rfl
      rw [ea, pl]
      by_cases c : k ≤ ab b e
      · rw [if_pos c]; exact near c
      · rw [if_neg c]
        obtain ⟨z1, z2, z3⟩ := ih hq er (k := k - ab b e) (by omega) (by omega)
        have z2' : Dp ps d (nm ps i e) (along ps (c2 :: r2) (k - ab b e)) = k - ab b e := z2
        refine ⟨z1, ?_, by omega⟩
        have t1 := Dp_le T okp okr' z1
        have t2 := Dp_le T okp z1 hq
        show Dp ps d (nm ps i b) _ = k
        have ht2 : Dp ps d (nm ps i b) q = ab b e + ptot (c2 :: r2) := ht'.symm
        omega
end
end Rw

namespace Rw
section
variable {n : Int} {ps : List Pi} {d : Int → Int → Int} (T : Tm n ps d)
include T
theorem adj_by1 {p q : Pl} (hp : okP n ps p) (a : Adj ps p q) : Dp ps d p q = 1 := by
  have st := Dp_step T hp a
  have nn := Dp_nn T hp (ok_adj T a)
  rw [Dp_self T hp] at st
  rcases st with z | z <;> omega
/-! of three places one lies between each two -/
theorem mid_ex {p r : Pl} (hp : okP n ps p) (hr : okP n ps r) : ∀ (k : Nat) (q : Pl), okP n ps q → (Dp ps d p q).toNat = k → ∃ m, okP n ps m ∧ Btw ps d p q m ∧ Btw ps d p r m ∧ Btw ps d q r m
  | 0, q, hq, e => by
    have nn := Dp_nn T hp hq
    have z := Dp_eq0 T hp hq (by omega)
    subst z
    exact ⟨p, hp, (btw_refl T hp hp).1, (btw_refl T hp hr).1, (btw_refl T hp hr).1⟩
  | k + 1, q, hq, e => by
    have ne : q ≠ p := fun z => by rw [z, Dp_self T hp] at e; cases e
    obtain ⟨u, au, eu⟩ := Dp_par T hp hq ne
    have hu := ok_adj T au
    obtain ⟨m, hm, b1, b2, b3⟩ := mid_ex hp hr k u hu (by omega)
    have b1' : Dp ps d p m + Dp ps d m u = Dp ps d p u := b1
    have b2' : Dp ps d p m + Dp ps d m r = Dp ps d p r := b2
    have b3' : Dp ps d u m + Dp ps d m r = Dp ps d u r := b3
    have s1 := Dp_sym T hu hm
    have s2 := Dp_sym T hq hm
    have s3 := Dp_sym T hq hr
    have s4 := Dp_sym T hu hr
    have s5 := Dp_sym T hm hr
    have o1 := adj_by1 T hq au
    have o2 := Dp_sym T hq hu
    rcases Dp_step T hr au with z | z
    · -- q is nearer than u
      by_cases c : m = u
      · subst c
        refine ⟨q, hq, (btw_refl T hp hq).2, ?_, (btw_refl T hq hr).1⟩
        show Dp ps d p q + Dp ps d q r = Dp ps d p r
        omega
      · exfalso
        obtain ⟨x, ax, ex⟩ := Dp_par T hm hu (Ne.symm c)
        have hx := ok_adj T ax
        have s6 := Dp_sym T hx hr
        have s7 := Dp_sym T hm hx
        have t1 := Dp_le T hx hm hr
        have t2 := Dp_le T hp hm hx
        have stx := Dp_step T hr ax
        have s8 := Dp_sym T hp hu
        have exr : Dp ps d r u = Dp ps d r x + 1 := by rcases stx with w | w <;> omega
        have equ : x = q := Dp_uni T hr hu ax au.symm exr z
        subst equ
        omega
    · -- u is nearer
      have t1 := Dp_le T hq hu hm
      have t2 := Dp_le T hq hm hr
      have t3 := Dp_le T hp hm hq
      refine ⟨m, hm, ?_, b2, ?_⟩
      · show Dp ps d p m + Dp ps d m q = Dp ps d p q
        omega
      · show Dp ps d q m + Dp ps d m r = Dp ps d q r
        omega
theorem mid_of {p q r : Pl} (hp : okP n ps p) (hq : okP n ps q) (hr : okP n ps r) : ∃ k : Int, Dp ps d p q + Dp ps d p r - Dp ps d q r = 2 * k ∧ 0 ≤ k ∧ k ≤ Dp ps d p q ∧ k ≤ Dp ps d p r ∧
    ∀ z, okP n ps z → Dp ps d p z = k → Dp ps d z q = Dp ps d p q - k → Dp ps d z r = Dp ps d p r - k ∧ Btw ps d p r z ∧ Btw ps d q r z := by
  obtain ⟨m, hm, b1, b2, b3⟩ := mid_ex T hp hr _ q hq rfl
  have b1' : Dp ps d p m + Dp ps d m q = Dp ps d p q := b1
  have b2' : Dp ps d p m + Dp ps d m r = Dp ps d p r := b2
  have b3' : Dp ps d q m + Dp ps d m r = Dp ps d q r := b3
  have s1 := Dp_sym T hq hm
  have n1 := Dp_nn T hp hm
  have n2 := Dp_nn T hm hq
  have n3 := Dp_nn T hm hr
  refine ⟨Dp ps d p m, by omega, n1, by omega, by omega, fun z hz e1 e2 => ?_⟩
  have ez : z = m := btw_one T hp hz hm _ q hq rfl (show Dp ps d p z + Dp ps d z q = Dp ps d p q by omega) b1 e1
  subst ez
  exact ⟨by omega, b2, b3⟩
end
end Rw

namespace Rw
section
variable {n : Int} {ps : List Pi} {d : Int → Int → Int} (T : Tm n ps d)
include T
theorem rooms_row {s M : Int} (s0 : 0 ≤ s) (s1 : s < n) (hM : ∀ p ∈ ps, p.l ≤ M) (hM0 : 0 ≤ M) : ∀ (k : Nat) (t : Int), 0 ≤ t → t < n → (d s t).toNat < k → ∃ F : List Int, F.Nodup ∧ (∀ x ∈ F, 0 ≤ x ∧ x < n ∧ d s x ≤ d s t) ∧ d s t + M ≤ M * F.length
  | 0, t, _, _, e => absurd e (Nat.not_lt_zero _)
  | k + 1, t, t0, t1, e => by
    by_cases c : s = t
    · subst c
      refine ⟨[s], by simp, fun x hx => by rw [List.mem_singleton.mp hx]; exact ⟨s0, s1, Int.le_refl _⟩, ?_⟩
      rw [T.zero]
      show 0 + M ≤ M * ((1 : Nat) : Int)
      omega
    · obtain ⟨i, p, gp, h⟩ := T.par s t s0 s1 t0 t1 c
      have mp := List.mem_of_getElem? gp
      obtain ⟨x0, x1, y0, y1, l1⟩ := T.ok p mp
      have lM := hM p mp
      obtain ⟨u, u0, u1, eu⟩ : ∃ u, 0 ≤ u ∧ u < n ∧ d s u + p.l = d s t := by
        rcases h with ⟨_, h⟩ | ⟨_, h⟩
        · exact ⟨p.y, y0, y1, h⟩
        · exact ⟨p.x, x0, x1, h⟩
      have nnu : 0 ≤ d s u := by
        by_cases z : s = u
        · subst z; rw [T.zero]; exact Int.le_refl 0
        · have := T.pos s u s0 s1 u0 u1 z; omega
      obtain ⟨F, f1, f2, f3⟩ := rooms_row s0 s1 hM hM0 k u u0 u1 (by omega)
      refine ⟨t :: F, List.nodup_cons.mpr ⟨fun m => ?_, f1⟩, fun x hx => ?_, ?_⟩
      · have := (f2 t m).2.2
        omega
      · rcases List.mem_cons.mp hx with rfl | m
        · exact ⟨t0, t1, Int.le_refl _⟩
        · obtain ⟨a, b, c'⟩ := f2 x m
          exact ⟨a, b, by omega⟩
      · rw [List.length_cons]
        have : M * ((F.length + 1 : Nat) : Int) = M * F.length + M := by
          rw [Int.natCast_add]; show M * ((F.length : Int) + 1) = _; rw [Int.mul_add, Int.mul_one]
        omega
theorem rooms_far {s t : Int} (hn : n ≤ 16) (hM : ∀ p ∈ ps, p.l ≤ 1000000000000) (s0 : 0 ≤ s) (s1 : s < n) (t0 : 0 ≤ t) (t1 : t < n) : d s t ≤ 15000000000000 := by
  obtain ⟨F, f1, f2, f3⟩ := rooms_row T s0 s1 hM (by omega) _ t t0 t1 (Nat.lt_succ_self _)
  have := pigeon 16 F f1 (fun x hx => by have := f2 x hx; omega)
  omega
theorem places_far {p q : Pl} (hn : n ≤ 16) (hM : ∀ p ∈ ps, p.l ≤ 1000000000000) (hp : okP n ps p) (hq : okP n ps q) : Dp ps d p q ≤ 17000000000000 := by
  have room : ∀ z, okP n ps z → ∃ r, 0 ≤ r ∧ r < n ∧ Dp ps d z [r] ≤ 1000000000000 := fun z hz => by
    rcases ok_cases hz with ⟨r, rfl, r0, r1⟩ | ⟨i, a, rfl, h0, h1, a0, a1⟩
    · exact ⟨r, r0, r1, by rw [Dp_self T hz]; omega⟩
    · have l1 := hM _ (pr_mem h0 h1).1
      have z2 := Dp_same T h0 h1 a0 a1 (d := d) 0
      rw [nm_0] at z2
      obtain ⟨x0, x1, _⟩ := T.ok _ (pr_mem h0 h1).1
      refine ⟨(pr ps i).x, x0, x1, ?_⟩
      rw [z2]
      unfold ab
      split <;> omega
  obtain ⟨r, r0, r1, e1⟩ := room p hp
  obtain ⟨t, t0, t1, e2⟩ := room q hq
  have okr : okP n ps [r] := ⟨r0, r1⟩
  have okt : okP n ps [t] := ⟨t0, t1⟩
  have t1' := Dp_le T hp okr hq
  have t2' := Dp_le T okr okt hq
  have s1 := Dp_sym T hq okt
  have rf := rooms_far T hn hM r0 r1 t0 t1
  have rr : Dp ps d [r] [t] = d r t := rfl
  omega
end
end Rw

namespace Rw
open PySem PySem.Spec PyProof.Rows L2
section
variable {P : Program} {w : World} {K : PySem.W.Frag} {mg : Str → Option Value} {base : Heap}
abbrev sLaw : Stmt := topS 24
abbrev nLaw : List Str := ["_law_script", "_law_deck", "_law_turn", "_law_house_here", "_law_nexts_here", "_law_place", "_law_beside", "_law_deeps", "_law_length", "_law_deep_here", "_law_due"]
theorem scLaw : FnScope nLaw ["_law_script"] (defScope sLaw) := ⟨rfl, rfl, rfl, by decide +kernel, rfl, by decide +kernel, by decide +kernel⟩
def spLaw (K : PySem.W.Frag) : Sp := fun vs H Q _ => ∃ (a : Addr) (ns : List Int), vs = [.ref a] ∧ SqL K H a (ns.map V.int) ∧ ns.length ≤ 63 ∧ ∀ H', Q (.bl true) H'
theorem ok_law {f : Addr} {fd : FuncData} (F : Fun K "law" "law" sLaw f fd) (B : Blt mg) (mz : mg "zip" = none) (CB : Can P w K mg base "_law_begin" ["_law_script"] 1 (spBeg K)) (CN : Can P w K mg base "_law_next" ["_law_deck", "_law_many"] 1 spNx) (CH : Can P w K mg base "_law_house" ["_law_deck", "_law_most", "_law_top"] 2 spHs) (CU : Can P w K mg base "_law_hung" ["_law_deck", "_law_house_here"] 2 spHung) (CX : Can P w K mg base "_law_nexts" ["_law_house_here"] 2 spNex) (CD : Can P w K mg base "_law_deep" ["_law_nexts_here", "_law_place", "_law_beside"] 1 spDeep) (CS : Can P w K mg base "_law_same" ["_law_found", "_law_due"] 3 (spSameT 2)) (CL : Can P w K mg base "long_arms" ["house", "length", "place"] 5 spLArm) (CF : Can P w K mg base "_law_far_right" ["_law_deck"] 6 spFarR) :
    (∀ (s : Shared) (u : Value), BindsTo s fd ⟨[u], []⟩ [("_law_script", u)]) ∧ AtTop P w K mg base f fd "_law_script" (spLaw K) := by
  refine ⟨?_, atTop_of (k := 7) F scLaw ⟨rfl, by decide, by decide⟩ fun cdv s H v Q hr h => ?_⟩
  · obtain ⟨oc, od, kV, doc, pm, an, cdv, ct, osl, rfl, _, _⟩ := F.ex
    exact fun s u => .of_eq rfl
  · obtain ⟨a, ns, e, hS, hl, q⟩ := h
    cases e
    refine ⟨_, PSs.nox (pss_cons (ps_set (i := 1) scLaw.nd rfl (by first | exact Or.inl rfl | exact Or.inr rfl) (pe_can CB (hr.mono (by decide)) (by rfl) (pa_cons (pv 0) pa_nil)))
      (pss_cons (ps_if (pt_not (pt_val (pe_can CS (hr.mono (by decide)) (by rfl) (pa_cons (pe_can CL (hr.mono (by decide)) (by rfl) (pa_cons (pe_tup (pa_cons pe_int (pa_cons (pe_tup pa_nil) pa_nil))) (pa_cons (pe_op op_add pe_int (pe_can CN (hr.mono (by decide)) (by rfl) (pa_cons (pv 1) (pa_cons pe_int pa_nil)))) (pa_cons (pe_tup (pa_cons pe_int pa_nil)) pa_nil)))) (pa_cons (pe_tup pa_nil) pa_nil))))) (pss_one (ps_ret pe_bl)) pss_nil)
      (pss_cons (ps_for PassesOwn.never rfl (pi_range1 (by rfl) B.range_ (pa_cons pe_int pa_nil)) (pg_name (i := 2) scLaw.nd rfl (by first | exact Or.inl rfl | exact Or.inr rfl))
      (pss_cons (ps_set (i := 3) scLaw.nd rfl (by first | exact Or.inl rfl | exact Or.inr rfl) (pe_can CH (hr.mono (by decide)) (by rfl) (pa_cons (pv 1) (pa_cons pe_int (pa_cons pe_int pa_nil)))))
      (pss_cons (ps_if (pt_cmpR op_eq (pe_can CN (hr.mono (by decide)) (by rfl) (pa_cons (pv 1) (pa_cons pe_int pa_nil))) pe_int (nomark _)) (pss_one (ps_set (i := 3) scLaw.nd rfl (by first | exact Or.inl rfl | exact Or.inr rfl) (pe_can CU (hr.mono (by decide)) (by rfl) (pa_cons (pv 1) (pa_cons (pv 3) pa_nil))))) pss_nil)
      (pss_cons (ps_set (i := 4) scLaw.nd rfl (by first | exact Or.inl rfl | exact Or.inr rfl) (pe_can CX (hr.mono (by decide)) (by rfl) (pa_cons (pv 3) pa_nil)))
      (pss_one (ps_lock (ps_for PassesOwn.never rfl (pi_keys (pv 4)) (pg_name (i := 5) scLaw.nd rfl (by first | exact Or.inl rfl | exact Or.inr rfl))
      (pss_cons (ps_setLc (i := 7) (own := [("_law_beside", 6)]) (g := gName 6) (tt := tYes) rfl scLaw.nd rfl rfl (sw_true rfl rfl rfl (by decide +kernel)) (pi_list (pe_dget (hu_of hr) (pv 4) (pv 5) (fun _ _ => rfl))) (blkOk_by (N := nLaw) (sc := defScope sLaw) (by decide +kernel)) (fun _ _ _ _ _ => (pg_name (i := 6) scLaw.nd rfl (by first | exact Or.inl rfl | exact Or.inr rfl))) (fun _ _ _ _ _ => pts_nil) (fun _ _ _ _ _ => (pe_can CD (hr.mono (by decide)) (by rfl) (pa_cons (pv 4) (pa_cons (pv 5) (pa_cons (pv 6) pa_nil))))))
      (pss_one (ps_for PassesOwn.never rfl (pi_range2 (by rfl) B.range_ (pa_cons pe_int (pa_cons (pe_op op_add (pe_callB (cr_max rfl) (by rfl) B.max_ boot_max (pa_cons (pv 7) pa_nil)) pe_int) pa_nil))) (pg_name (i := 8) scLaw.nd rfl (by first | exact Or.inl rfl | exact Or.inr rfl))
      (pss_cons (ps_setLc (i := 10) (own := [("_law_beside", 6), ("_law_deep_here", 9)]) rfl scLaw.nd rfl rfl (sw_true rfl rfl rfl (by decide +kernel)) (pi_zip (by rfl) mz (pa_cons (pe_dget (hu_of hr) (pv 4) (pv 5) (fun _ _ => rfl)) (pa_cons (pv 7) pa_nil))) (blkOk_by (N := nLaw) (sc := defScope sLaw) (by decide +kernel)) (fun _ _ _ _ _ => (pg_tupK (K := K) (n := 2) rfl (by rfl) (pgs_cons (pg_name (i := 6) scLaw.nd rfl (by first | exact Or.inl rfl | exact Or.inr rfl)) (pgs_cons (pg_name (i := 9) scLaw.nd rfl (by first | exact Or.inl rfl | exact Or.inr rfl)) pgs_nil)))) (fun _ _ _ _ _ => pts_one (pt_cmpR op_ge (pv 9) (pv 8) (nomark _))) (fun _ _ _ _ _ => (pv 6)))
      (pss_one (ps_if (pt_not (pt_val (pe_can CS (hr.mono (by decide)) (by rfl) (pa_cons (pe_can CL (hr.mono (by decide)) (by rfl) (pa_cons (pv 3) (pa_cons (pv 8) (pa_cons (pv 5) pa_nil)))) (pa_cons (pe_callTy call_tuple_of (by rfl) B.tuple_ boot_tuple (pa_cons (pv 10) pa_nil)) pa_nil))))) (pss_one (ps_ret pe_bl)) pss_nil)))))))))))))
      (pss_one (ps_ret (pe_can CF (hr.mono (by decide)) (by rfl) (pa_cons (pv 1) pa_nil))))))), ?_⟩
    refine ⟨.ref a, rfl, a, ns, rfl, hS, hl, fun H1 D G _ _ _ dk1 => ?_⟩
    have mD : D ∈ [D, G] := List.mem_cons_self
    have mG : G ∈ [D, G] := List.mem_cons_of_mem _ List.mem_cons_self
    have tr0 : ∀ M : Hp, Tr [] M := fun M _ m => nomatch m
    refine ⟨show 0 ≤ sizeLine by decide, fun E1 nE1 => ?_⟩
    obtain ⟨kE1, tE1, eE1⟩ := tup_facts (dk1.tr) .nil nE1
    generalize upd _ E1 (.tup _) = G1 at kE1 tE1 eE1 ⊢
    refine ⟨show 2 ≤ sizeLine by decide, fun E2 nE2 => ?_⟩
    obtain ⟨kE2, tE2, eE2⟩ := tup_facts tE1 (.cons (.int 1) (.cons eE1 .nil)) nE2
    generalize upd _ E2 (.tup _) = G2 at kE2 tE2 eE2 ⊢
    have dkG2 := (dk1.keep kE1).keep kE2
    refine ⟨.ref D, rfl, D, G, _, 9, rfl, by decide, by decide, dkG2, by omega, fun G3 x9 kp9 dk9 _ _ => ⟨1, x9, rfl, rfl, show 1 ≤ sizeLine by decide, fun E3 nE3 => ?_⟩⟩
    have dE2 : Dt [D, G] G3 (.ref E2) (houseD 1 (([] : List Pi).map Pi.dat)) := Dt.keep (av := [D, G]) eE2 kp9
    obtain ⟨kE3, _, eE3⟩ := tup_facts (tr0 G3) (.cons (.int 0) .nil) nE3
    generalize upd _ E3 (.tup _) = G4 at kE3 eE3 ⊢
    have hk1 : HouseOk 1 [] := ⟨by decide, by decide, rfl, fun _ m => absurd m List.not_mem_nil⟩
    obtain ⟨d1, T1⟩ := tree (n := 1) (ps := []) (by decide) rfl (fun _ m => absurd m List.not_mem_nil) (fun S _ a ha => by rw [show a = 0 by have : a < 1 := ha; omega])
    refine ⟨.ref E2, .ref E3, 1, 1 + x9, [], d1, [0], [], rfl, ((dE2.less (fun _ m => by cases m) : Dt [] G3 (.ref E2) (houseD 1 (([] : List Pi).map Pi.dat)))).keep kE3, hk1, T1, eE3, ⟨by decide, by decide⟩, tr0 _, fun G5 r5 k5 _ d5 => ⟨show 0 ≤ sizeLine by decide, fun E4 nE4 => ?_⟩⟩
    obtain ⟨kE4, _, eE4⟩ := tup_facts (tr0 G5) .nil nE4
    generalize upd _ E4 (.tup _) = G6 at kE4 eE4 ⊢
    have hnil : longL 1 [] d1 (1 + x9) [0] = [] := by
      have : besideL [] [0] = [] := rfl
      unfold longL
      rw [this]; simp [sortL]
    rw [hnil] at d5
    refine ⟨.ref r5, .ref E4, _, rfl, d5.keep kE4, eE4, .tup (by simp) (fun d hd => absurd hd List.not_mem_nil), fun G7 k7 => ⟨_, rfl, iteF ?_⟩⟩
    have dk0 : Dk G7 D G 2 := ((((dk9.keep kE3).keep k5).keep kE4).keep k7).mono (by omega)
    refine ⟨3, rfl, by decide, by decide, for_range (lo := 0) (n := 3) (fun i σ J => ∃ s2 s3 s4 s5 s6 s7 s8 s9 s10, σ = [some (.ref a), some (.ref D), s2, s3, s4, s5, s6, s7, s8, s9, s10] ∧ Dk J D G (2 + 1000 * i)) ⟨_, _, _, _, _, _, _, _, _, rfl, dk0.mono (by omega)⟩ (fun i σ J hi p => ?_) (fun σ J p => ?_)⟩
    · obtain ⟨s2, s3, s4, s5, s6, s7, s8, s9, s10, rfl, dk⟩ := p
      refine ⟨.ref D, rfl, D, G, _, 6, 5, [D, G], rfl, by decide, by decide, by decide, by decide, dk, by omega, dk.tr, mD, mG, fun H2 p n ps k2 dk2 n1 n2 ln okp con dh tr2 => ?_⟩
      have hk : HouseOk n ps := ⟨by omega, by omega, ln, fun p m => (okp p m).1⟩
      have hl5 : ∀ p ∈ ps, p.l ≤ 5 := fun p m => (okp p m).2.1
      refine ⟨.ref D, rfl, D, G, _, 3, rfl, by decide, by decide, dk2, by omega, fun H3 x kp3 dk3 _ _ => ⟨rfl, _, rfl, ite2 (fun c => ?A) (fun c => ?B)⟩⟩
      case' B =>
        replace dh := dh.keep kp3
        replace tr2 := tr2.kp kp3 dk3.tr
        replace dk3 := dk3.mono (b' := 2 + 1000 * (i : Int) + 300) (by omega)
        clear okp
        obtain ⟨hs, rfl⟩ : ∃ hs, hs = p := ⟨_, rfl⟩
      case' A =>
        refine ⟨.ref D, rfl, .ref p, rfl, D, G, .ref p, _, n, ps, [D, G], rfl, dh.keep kp3, hk, n1, dk3, by omega, tr2.kp kp3 dk3.tr, mD, mG, fun H4 hs i0 p' k4 dk4 tr4 hi0 ex ey el fit dh4 => ?_⟩
        have pm := pr_mem (ps := ps) (i := (i0 : Int)) (by omega) (by omega)
        rw [show ((i0 : Int)).toNat = i0 by omega] at pm
        have eps : ps = ps.take i0 ++ [pr ps (i0 : Int)] ++ ps.drop (i0 + 1) := by
          have z : ps = ps.take i0 ++ ps.drop i0 := (List.take_append_drop _ _).symm
          have w : ps.drop i0 = pr ps (i0 : Int) :: ps.drop (i0 + 1) := by
            rw [List.drop_eq_getElem_cons hi0]
            have e1 := pm.2
            rw [List.getElem?_eq_getElem hi0] at e1
            rw [Option.some.inj e1]
          rw [List.append_assoc, List.singleton_append, ← w]; exact z
        have mem' : ∀ z ∈ ps.take i0 ++ [p'] ++ ps.drop (i0 + 1), z = p' ∨ z ∈ ps := fun z hz => by
          rcases List.mem_append.mp hz with hz | hz
          · rcases List.mem_append.mp hz with hz | hz
            · exact .inr (List.mem_of_mem_take hz)
            · exact .inl (List.mem_singleton.mp hz)
          · exact .inr (List.mem_of_mem_drop hz)
        have edg : edges (ps.take i0 ++ [p'] ++ ps.drop (i0 + 1)) = edges ps := by
          have e2 : edges ps = edges (ps.take i0 ++ [pr ps (i0 : Int)] ++ ps.drop (i0 + 1)) := congrArg edges eps
          rw [e2]
          unfold edges
          rw [List.map_append, List.map_append, List.map_append, List.map_append]
          show _ ++ [(p'.x.toNat, p'.y.toNat)] ++ _ = _ ++ [((pr ps (i0 : Int)).x.toNat, (pr ps (i0 : Int)).y.toNat)] ++ _
          rw [ex, ey]
        have okq := hk.ok _ pm.1
        have len' : (ps.take i0 ++ [p'] ++ ps.drop (i0 + 1)).length = ps.length := by
          rw [List.length_append, List.length_append, List.length_take, List.length_drop, List.length_singleton]; omega
        have hk' : HouseOk n (ps.take i0 ++ [p'] ++ ps.drop (i0 + 1)) := ⟨by omega, by omega, by rw [len']; exact ln, fun z hz => by
          rcases mem' z hz with rfl | hz
          · exact ⟨by rw [ex]; exact okq.x0, by rw [ex]; exact okq.x1, by rw [ey]; exact okq.y0, by rw [ey]; exact okq.y1, by rw [ex, ey]; exact okq.xy, fit⟩
          · exact hk.ok z hz⟩
        have hl5' : ∀ p ∈ ps.take i0 ++ [p'] ++ ps.drop (i0 + 1), p.l ≤ 5 := fun z hz => by
          rcases mem' z hz with rfl | hz
          · rw [el]; exact hl5 _ pm.1
          · exact hl5 z hz
        have con' : Con n.toNat (edges (ps.take i0 ++ [p'] ++ ps.drop (i0 + 1))) := by rw [edg]; exact con
        have ln' : ((ps.take i0 ++ [p'] ++ ps.drop (i0 + 1)).length : Int) = n - 1 := by rw [len']; exact ln
        generalize ps.take i0 ++ [p'] ++ ps.drop (i0 + 1) = psn at dh4 hk' hl5' con' ln'
        clear eps mem' edg len' pm okq hk hl5 con ln okp dh ex ey el
        obtain ⟨ps, rfl⟩ : ∃ z, z = psn := ⟨_, rfl⟩
        obtain ⟨dh, hk, hl5, con, ln⟩ : Dt [D, G] H4 (.ref hs) (houseD n (ps.map Pi.dat)) ∧ HouseOk n ps ∧ (∀ p ∈ ps, p.l ≤ 5) ∧ Con n.toNat (edges ps) ∧ (ps.length : Int) = n - 1 := ⟨dh4, hk', hl5', con', ln'⟩
        replace tr2 := tr4
        replace dk3 := dk4.mono (b' := 2 + 1000 * (i : Int) + 300) (by omega)
      all_goals
        obtain ⟨d, T⟩ := tree (by omega) ln (fun p m => by have z := hk.ok p m; exact ⟨z.x0, by have := z.x1; omega, z.y0, by have := z.y1; omega, z.fit.l1⟩) con
        refine ⟨.ref hs, rfl, .ref hs, n, ps, d, [D, G], rfl, dh, hk, T, fun p m => by have := hl5 p m; omega, tr2, fun H5 Fd kvs k5 fF tr5 eF nx => ?_⟩
        have dk5 := dk3.keep k5
        have zF := dk3.nes fF
        replace dh := (dh.more fF).keep k5.of
        refine ⟨Fd, .dT kvs, eF, trivial, fun od => ?_⟩
        have eL8 : (upd H5 Fd (.frz od (.dT kvs))) Fd = some (.frz od (.dT kvs)) := upd_same
        have kF8 : Keep [Fd, D, G] H5 (upd H5 Fd (.frz od (.dT kvs))) := Keep.put List.mem_cons_self
        replace dh := dh.keep kF8
        replace nx := nx.keep kF8
        have dkL := dk5.other (o := .frz od (.dT kvs)) zF.1 zF.2
        generalize upd H5 Fd (.frz od (.dT kvs)) = HL at eL8 dh nx dkL ⊢
        have dh0 : Dt [] HL (.ref hs) (houseD n (ps.map Pi.dat)) := dh.less (fun _ m => nomatch m)
        have nx0 : Nex [] HL kvs n ps := nx.less (fun _ m => nomatch m)
        have n0 : 0 ≤ n := by omega
        have hM : ∀ p ∈ ps, p.l ≤ 1000000000000 := fun p m => by have := hl5 p m; omega
        refine ⟨.ref Fd, rfl, Fd, od, rfl, .inr ⟨kvs, eL8, for_it (walk_keysT (d := Fd) (o := od) (kvs := kvs)) (fun j σ M => ∃ s2 s5 s6 s7 s8 s9 s10, σ = [some (.ref a), some (.ref D), s2, some (.ref hs), some (.ref Fd), s5, s6, s7, s8, s9, s10] ∧ Keep [] HL M) ⟨_, _, _, _, _, _, _, rfl, Keep.refl _ _⟩ (fun j σ M _ p => ?_) (fun j x σ M0 M hj p y => ?_) (fun σ M p => ?_)⟩⟩
        · obtain ⟨_, _, _, _, _, _, _, _, kM⟩ := p
          exact kM Fd _ eL8 List.not_mem_nil
        · obtain ⟨s2, s5, s6, s7, s8, s9, s10, rfl, kM⟩ := p
          obtain ⟨rfl, k1, v1, q1, gk1, rfl, eq1⟩ := y
          obtain ⟨p1, ok1, rfl⟩ : ∃ p1, okP n ps p1 ∧ k1 = keyOf p1 := nx.2.1 (k1, v1) (List.mem_of_getElem? gk1)
          have d1 := key_data eq1
          obtain ⟨vL, hval, L1, us, qs, rfl, _, eL1, dus, lus, ndq, hq⟩ := nx0.2.2 p1 ok1
          have hqS : ∀ v, v ∈ sortL qs ↔ Adj ps p1 v := fun v => ((List.mergeSort_perm qs leI).mem_iff).trans (hq v)
          have eqs : sortL qs = sortL (besideL ps p1) := sortL_perm (perm_of ndq (beside_nodup T ok1) fun z => (hq z).trans (mem_beside T ok1).symm)
          have eL1M := kM L1 _ eL1 List.not_mem_nil
          have lS : us.length = (sortL qs).length := by rw [dus.len, List.length_map]
          refine ⟨.ref Fd, rfl, .ref q1, rfl, Fd, .ref L1, rfl, .inr ⟨kvs, keyOf p1, q1, .inr ⟨od, kM Fd _ eL8 List.not_mem_nil⟩, rfl, eq1, hval.symm⟩, L1, rfl, ⟨_, SqL.of eL1M⟩, fun W nW => ?_⟩
          refine lc_list (K := K) (a := L1) (xs := us) (fun j N => Keep [] M N ∧ ∃ cs : List Int, cs = ((sortL qs).take j).map (fun b => armTo ps d p1 b n.toNat) ∧ N W = some (.lst (cs.map V.int))) ⟨Keep.new nW, [], rfl, upd_same⟩ (fun j N _ p => SqL.of (p.1 L1 _ eL1M List.not_mem_nil)) (fun j x N hx p => ?_) (fun N p => ?_)
          · obtain ⟨kN, cs, ecs, eW⟩ := p
            have kLN := kM.trans kN
            obtain ⟨dd, gd, dx⟩ := (dus.keep kLN).getv j hx
            rw [List.getElem?_map] at gd
            obtain ⟨b, gb, rfl⟩ := Option.map_eq_some_iff.mp gd
            have adj := (hqS b).mp (List.mem_of_getElem? gb)
            have hj : j < us.length := (List.getElem?_eq_some_iff.mp hx).1
            have lcs : cs.length ≤ j := by rw [ecs, List.length_map, List.length_take]; omega
            refine ⟨rfl, .ref Fd, rfl, .ref q1, rfl, x, rfl, Fd, kvs, .ref q1, x, n, ps, d, p1, b, rfl, .inr ⟨od, kLN Fd _ eL8 List.not_mem_nil⟩, nx0.keep kLN, T, n0, d1.keep kN, dx, ok1, adj, fun N2 k2 => ?_⟩
            refine ⟨cs.map V.int, k2 W _ eW List.not_mem_nil, by rw [List.length_map]; exact Nat.lt_of_lt_of_le (by omega : cs.length < 1001) (show 1001 ≤ sizeLine by decide), (kN.trans k2).upd nW, cs ++ [armTo ps d p1 b n.toNat], ?_, by rw [upd_same, List.map_append]; rfl⟩
            rw [ecs, List.take_add_one, gb, List.map_append]; rfl
          · obtain ⟨kN, cs, ecs, eW⟩ := p
            rw [lS, List.take_length] at ecs
            have lcs : cs.length = us.length := by rw [ecs, List.length_map, lS]
            obtain ⟨b0, adj0⟩ : ∃ b0, Adj ps p1 b0 := by
              by_cases e : p1 = [0]
              · obtain ⟨q, h, _⟩ := Dp_par T (s := [1]) (show okP n ps [1] from ⟨by omega, by omega⟩) ok1 (by rw [e]; decide)
                exact ⟨q, h⟩
              · obtain ⟨q, h, _⟩ := Dp_par T (s := [0]) (show okP n ps [0] from ⟨by omega, by omega⟩) ok1 e
                exact ⟨q, h⟩
            have lpos : 0 < us.length := by rw [lS]; exact List.length_pos_of_mem ((hqS b0).mpr adj0)
            have kLN := kM.trans kN
            refine ⟨.ref W, rfl, W, cs, rfl, SqL.of eW, by omega, fun m hm hle => ⟨m, 2, rfl, rfl, ?_⟩⟩
            have mb : 0 ≤ m ∧ m ≤ 17000000000000 := by
              rw [ecs] at hm
              obtain ⟨b, hb, rfl⟩ := List.mem_map.mp hm
              refine ⟨armTo_nn _ _ _ _ _, ?_⟩
              by_cases c : 0 < armTo ps d p1 b n.toNat
              · obtain ⟨r, r1, _, r3⟩ := armTo_at n.toNat c
                rw [← r3]
                exact places_far T hk.n2 hM ok1 ⟨by omega, by omega⟩
              · omega
            refine ⟨1, m + 2, rfl, ⟨by decide, by decide, by omega, by omega⟩, for_range (lo := 1) (n := (m + 2 - 1).toNat) (fun j σ N2 => ∃ s2 s6 s8 s9 s10, σ = [some (.ref a), some (.ref D), s2, some (.ref hs), some (.ref Fd), some (.ref q1), s6, some (.ref W), s8, s9, s10] ∧ Keep [] N N2) ⟨_, _, _, _, _, rfl, Keep.refl _ _⟩ (fun j σ N2 hj p => ?_) (fun σ N2 p => ?_)⟩
            · obtain ⟨s2, s6, s8, s9, s10, rfl, kN2⟩ := p
              have kL2 := kLN.trans kN2
              have eL12 := (kN.trans kN2) L1 _ eL1M List.not_mem_nil
              have eW2 := kN2 W _ eW List.not_mem_nil
              refine ⟨.ref Fd, rfl, .ref q1, rfl, Fd, .ref L1, rfl, .inr ⟨kvs, keyOf p1, q1, .inr ⟨od, kL2 Fd _ eL8 List.not_mem_nil⟩, rfl, (kN.trans kN2) q1 _ eq1 List.not_mem_nil, hval.symm⟩, .ref W, rfl, L1, W, us, cs.map V.int, rfl, SqL.of eL12, SqL.of eW2, fun X nX => ?_⟩
              refine lc_it (walk_zip (K := K) (a := L1) (b := W) (xs := us) (ys := cs.map V.int) (n := us.length) (by rw [List.length_map]; omega)) (fun i R => Keep [] N2 R ∧ ∃ ws : List V, R X = some (.lst ws) ∧ ws.length ≤ i ∧ Dts [X] R ws ((((sortL qs).take i).filter fun b => decide (1 + (j : Int) ≤ armTo ps d p1 b n.toNat)).map tupI)) ⟨Keep.new nX, [], upd_same, Nat.le_refl _, .nil⟩ (fun i R _ p => ⟨SqL.of (p.1 L1 _ eL12 List.not_mem_nil), SqL.of (p.1 W _ eW2 List.not_mem_nil)⟩) (fun i x R R' hi p y => ?_) (fun R p => ?_)
              · obtain ⟨kR, ws, eX, lw, dw⟩ := p
                obtain ⟨T0, x1, y1, rfl, nT, rfl, hx1, hy1⟩ := y
                have kT : Keep [] R (upd R T0 (.tup [x1, y1])) := Keep.new nT
                have eX2 := kT X _ eX List.not_mem_nil
                have eT0 : (upd R T0 (.tup [x1, y1])) T0 = some (.tup [x1, y1]) := upd_same
                generalize upd R T0 (.tup [x1, y1]) = R2 at kT eX2 eT0 ⊢
                have hx1' : us[i]? = some x1 := hx1
                have hy1' : (cs.map V.int)[i]? = some y1 := hy1
                obtain ⟨dd, gd, dx⟩ := dus.getv i hx1'
                rw [List.getElem?_map] at gd
                obtain ⟨b, gb, rfl⟩ := Option.map_eq_some_iff.mp gd
                have ey : y1 = .int (armTo ps d p1 b n.toNat) := by
                  rw [ecs, List.map_map, List.getElem?_map, gb] at hy1'
                  exact (Option.some.inj hy1').symm
                subst ey
                have tk : (sortL qs).take (i + 1) = (sortL qs).take i ++ [b] := by rw [List.take_add_one, gb]; rfl
                refine ⟨T0, [x1, .int (armTo ps d p1 b n.toNat)], rfl, SqT.of eT0, rfl, _, _, rfl, _, [], rfl, rfl, ?_⟩
                refine ⟨rfl, .int _, rfl, .int (1 + (j : Int)), rfl, _, _, rfl, rfl, _, rfl, ?_⟩
                have kNX : ∀ Z, Keep [] N2 Z → True := fun _ _ => trivial
                have dxX : Dt [X] R2 x1 (tupI b) := by
                  have z : Dt [X] N2 x1 (tupI b) := (dx.keep kL2).more nX
                  exact z.keep (kR.trans kT).of
                by_cases c : 1 + (j : Int) ≤ armTo ps d p1 b n.toNat
                · rw [show decide (armTo ps d p1 b n.toNat ≥ 1 + (j : Int)) = true from decide_eq_true c]
                  refine iteT ?_
                  refine ⟨x1, rfl, ws, eX2, Nat.lt_of_lt_of_le (by omega : ws.length < 1001) (show 1001 ≤ sizeLine by decide), (kR.trans kT).upd nX, ws ++ [x1], upd_same, by rw [List.length_append]; show ws.length + 1 ≤ _; omega, ?_⟩
                  rw [tk, List.filter_append, show [b].filter (fun b => decide (1 + (j : Int) ≤ armTo ps d p1 b n.toNat)) = [b] by simp [c], List.map_append]
                  exact ((dw.keep kT.of).app (.cons dxX .nil)).keep (Keep.put List.mem_cons_self)
                · rw [show decide (armTo ps d p1 b n.toNat ≥ 1 + (j : Int)) = false from decide_eq_false c]
                  refine iteF ?_
                  refine ⟨kR.trans kT, ws, eX2, by omega, ?_⟩
                  rw [tk, List.filter_append, show [b].filter (fun b => decide (1 + (j : Int) ≤ armTo ps d p1 b n.toNat)) = [] by simp [c], List.append_nil]
                  exact dw.keep kT.of
              · obtain ⟨kR, ws, eX, lw, dw⟩ := p
                rw [lS, List.take_length, eqs] at dw
                have kLR := kL2.trans kR
                refine ⟨.ref hs, rfl, .int (1 + (j : Int)), rfl, .ref q1, rfl, .ref hs, .ref q1, n, 1 + (j : Int), ps, d, p1, [], rfl, dh0.keep kLR, hk, T, d1.keep ((kN.trans kN2).trans kR), ok1, tr0 _, fun R3 r3 k3 _ d3 => ?_⟩
                refine ⟨.ref X, rfl, X, ws, rfl, .inl ⟨SqL.of (k3 X _ eX List.not_mem_nil), fun Y nY => ?_⟩⟩
                have kY : Keep [] R3 (upd R3 Y (.tup ws)) := Keep.new nY
                have dw0 : Dts [] R ws ((longL n ps d (1 + (j : Int)) p1).map tupI) := dw.less (fun _ m => nomatch m)
                refine ⟨.ref r3, .ref Y, _, rfl, d3.keep kY, .tup List.not_mem_nil upd_same ((dw0.keep k3).keep kY), ?_, fun R4 k4 => ⟨_, rfl, iteF ?_⟩⟩
                · refine IT.places _ ?_ (fun z hz => ?_)
                  · have := dw0.len
                    rw [List.length_map] at this
                    omega
                  · have m2 := (List.mem_filter.mp hz).1
                    have := ok_adj T ((mem_beside T ok1).mp ((List.mergeSort_perm _ leI).mem_iff.mp m2))
                    rcases ok_cases this with ⟨r, rfl, _⟩ | ⟨i, a, rfl, _⟩
                    · show (1 : Nat) ≤ 1000; decide
                    · show (2 : Nat) ≤ 1000; decide
                · exact ⟨_, _, _, _, _, rfl, kN2.trans (kR.trans (k3.trans (kY.trans k4)))⟩
            · obtain ⟨s2, s6, s8, s9, s10, rfl, kN2⟩ := p
              exact ⟨_, _, _, _, _, _, _, rfl, kLN.trans kN2⟩
        · obtain ⟨s2, s5, s6, s7, s8, s9, s10, rfl, kM⟩ := p
          refine ⟨kM Fd _ eL8 List.not_mem_nil, ?_⟩
          exact ⟨_, _, _, _, _, _, _, _, _, rfl, ((dkL.keep kM).other (o := .dT kvs) zF.1 zF.2).mono (by omega)⟩
    · obtain ⟨s2, s3, s4, s5, s6, s7, s8, s9, s10, rfl, dk⟩ := p
      exact ⟨.ref D, rfl, D, G, _, rfl, dk, by omega, fun H' => q H'⟩
end
end Rw

namespace Rw
open PySem PySem.Spec PyProof.Rows L2
theorem has_mk {K : PySem.W.Frag} {h : Heap} {mg : Str → Option Value} {x : Str} {st : Stmt} {f : Addr} (X : K.In h) (G : h.Ns mainGlobals mg) {od an : Option Addr} {sl : Array (Option Value)} {oc kV dc pm cd ct : Value}
    (a : PySem.W.nsIn K mainGlobals x = some (some (.ref f))) (l : K.lookup f = some ⟨oc, od, .func (PySem.W.fnOf x x (defArgs st) (defBody st) (defScope st) .none kV dc pm an cd ct), sl⟩) (c : PySem.W.codeIn K cd x = true) (k : PySem.W.keepIn K (.ref f) = true) : Has K mg x st :=
  ⟨f, _, fun_mk (st := st) l c k, PySem.W.mg_of X G a⟩
theorem cst_mk {K : PySem.W.Frag} {h : Heap} {mg : Str → Option Value} {x : Str} {i : Int} {t : Tok} (X : K.In h) (G : h.Ns mainGlobals mg) (a : PySem.W.nsIn K mainGlobals x = some (some (.int i t))) : ∃ t, mg x = some (.int i t) := ⟨t, PySem.W.mg_of X G a⟩
def HasPlan (K : PySem.W.Frag) (mg : Str → Option Value) : Prop := ∃ C f fd, Mk K C f ∧ Fun K "__init__" "Plan.__init__" sInit f fd ∧ mg "Plan" = some (.ref C) ∧ PlanTxt K C
theorem plan_has {K : PySem.W.Frag} {h : Heap} {mg : Str → Option Value} {C f : Addr} (X : K.In h) (G : h.Ns mainGlobals mg) {od an : Option Addr} {sl : Array (Option Value)} {oc kV dc pm cd ct : Value} (aC : PySem.W.nsIn K mainGlobals "Plan" = some (some (.ref C))) (a1 : PySem.W.findIn K (.ref C) "__init__" = some (some (.ref f))) (i1 : PySem.W.isFn K (.ref f) = true)
    (l1 : K.lookup f = some ⟨oc, od, .func (PySem.W.fnOf "__init__" "Plan.__init__" (defArgs sInit) (defBody sInit) (defScope sInit) .none kV dc pm an cd ct), sl⟩) (c1 : PySem.W.codeIn K cd "Plan.__init__" = true) (k1 : PySem.W.keepIn K (.ref f) = true) (pg : PySem.W.plainGet K C Str.empty = true) (hd : PySem.W.hasDictIn K C = true) (po : PySem.W.plainOver K C = true)
    (sa : PySem.W.findIn K (.ref C) "__setattr__" = some (some (.builtin "object.__setattr__"))) (mk : PySem.W.makesIn K C = true) (kc : PySem.W.keepIn K (.ref C) = true) (n1 : PySem.W.findIn K (.ref C) "built" = some none) (n2 : PySem.W.findIn K (.ref C) "pipes" = some none) (n3 : PySem.W.findIn K (.ref C) "doors" = some none) (n4 : PySem.W.findIn K (.ref C) "gaps" = some none) (n5 : PySem.W.findIn K (.ref C) "towards" = some none) : HasPlan K mg :=
  ⟨C, f, _, ⟨mk, a1, i1, kc⟩, fun_mk (st := sInit) l1 c1 k1, PySem.W.mg_of X G aC, ⟨⟨pg, hd, po, sa⟩, n1, n2, n3, n4, n5⟩⟩
theorem end_all {P : Program} {w : World} {K : PySem.W.Frag} {mg : Str → Option Value} {fa : Addr} (B : Blt mg) (hfa : mg "law" = some (.ref fa)) (hL : Has K mg "law" sLaw)
    (m_zip : mg "zip" = none)
    (m_dict : mg "dict" = none)
    (hP : HasPlan K mg)
    (h1 : Has K mg "doors_of" sDoors)
    (h2 : Has K mg "spread_from" sSpread)
    (h3 : Has K mg "are_in_one_pipe" sOnePipe)
    (h4 : Has K mg "exits_of" sExits)
    (h5 : Has K mg "shortest" sShort)
    (h6 : Has K mg "gap_of" sGap)
    (h7 : Has K mg "place_at" sPAt)
    (h8 : Has K mg "places_beside" sPB)
    (h9 : Has K mg "arm_depth" sArm)
    (h10 : Has K mg "long_arms" sLArm)
    (h11 : Has K mg "_law_begin" sBeg)
    (h12 : Has K mg "_law_next" sNx)
    (h13 : Has K mg "_law_house" sHs)
    (h14 : Has K mg "_law_spot" sSpot)
    (h15 : Has K mg "_law_nexts" sNex)
    (h16 : Has K mg "_law_deep" sDeep)
    (h17 : Has K mg "_law_hung" sHung)
    (h18 : Has K mg "_law_star" sStar)
    (h19 : Has K mg "_law_far_right" sFarR)
    (h20 : Has K mg "_law_same" sSame)
    : ∃ fd : FuncData, (∀ (s : Shared) (u : Value), BindsTo s fd ⟨[u], []⟩ [("_law_script", u)]) ∧ ∀ base : Heap, K.In base → base.Ns mainGlobals mg → AtTop P w K mg base fa fd "_law_script" (spLaw K) := by
  obtain ⟨f, fd, F, g⟩ := hL
  have e := hfa.symm.trans g
  cases e
  obtain ⟨CP, fI, fdI, MI, FI, gI, XP⟩ := hP
  have all : ∀ base : Heap, (∀ (s : Shared) (u : Value), BindsTo s fd ⟨[u], []⟩ [("_law_script", u)]) ∧ AtTop P w K mg base fa fd "_law_script" (spLaw K) := fun base => by
    have cDo : Can P w K mg base _ _ _ _ := ok_doors h1 B
    have cSp : Can P w K mg base _ _ _ _ := ok_spread h2 B
    have cPl := (⟨fI, fdI, MI, ok_init FI B XP cDo cSp, gI, FI.binds fun _ _ _ _ _ _ us hl => match us, hl with | [_, _], _ => rfl⟩ : CanMk P w K mg base "Plan" CP ["self", "house"] 2 (spInit CP))
    have cOP : Can P w K mg base _ _ _ _ := ok_onePipe h3 B
    have cEx : Can P w K mg base _ _ _ _ := ok_exits h4 B XP
    have cSh := ok_short h5 B XP cEx
    have cGa := ok_gap h6 B cOP cSh
    have cPA : Can P w K mg base _ _ _ _ := ok_pAt h7 XP
    have cPB := ok_pB h8 B XP cPA
    have cA := ok_arm h9 B XP cGa
    have cL := ok_lArm h10 B cPl cPB cA
    have cB : Can P w K mg base _ _ _ _ := ok_beg h11 B
    have cN : Can P w K mg base _ _ _ _ := ok_nx h12 B
    have cH := ok_hs h13 B cN
    have cSp0 : Can P w K mg base _ _ _ _ := ok_spot h14 B
    have cX := ok_nex h15 B m_zip m_dict cSp0
    have cD : Can P w K mg base _ _ _ _ := ok_deep h16 B
    have cU := ok_hung h17 B cN
    have cS : Can P w K mg base _ _ _ _ := ok_sameT h20 B 2
    have cT := ok_star h18 B cN
    have cF := ok_farR h19 B cN cT cSp0 cS cL
    exact ok_law F B m_zip cB cN cH cU cX cD cS cL cF
  exact ⟨fd, (all Inhabited.default).1, fun base _ _ => (all base).2⟩
end Rw
open PySem PySem.W PyProof.Rows
set_option maxHeartbeats 0 in
theorem PySem.Challenge.cw_ropewarren_k44_long_arms_holds : PySem.Challenge.rw_ropewarren_k44_long_arms.Holds := by
  w_on; o_law; k_head; (case hw => w_witness2)
  k_fill
  refine Rw.walk_top (l := PySem.Challenge.rw_ropewarren_k44_long_arms) (n := 63) (x := "_law_script") (sp := fun w => Rw.spLaw _) rfl (by decide) rfl (fun w h Y => PySem.W.kIn_of Y) ?F (fun _ _ a ns hl _ hS => ⟨a, ns, rfl, hS, hl, fun _ => rfl⟩)
  case F =>
    intro w mg fa h KX G hmg0
    have hmg : mg "law" = some (.ref fa) := hmg0
    clear hmg0
    refine' Rw.end_all (mg := mg) ?B hmg ?hL ?m_zip ?m_dict  ?hP ?h1 ?h2 ?h3 ?h4 ?h5 ?h6 ?h7 ?h8 ?h9 ?h10 ?h11 ?h12 ?h13 ?h14 ?h15 ?h16 ?h17 ?h18 ?h19 ?h20
    case B =>
      refine' ⟨PySem.W.mg_none_of KX G ?b1, PySem.W.mg_none_of KX G ?b2, PySem.W.mg_none_of KX G ?b3, PySem.W.mg_none_of KX G ?b4, PySem.W.mg_none_of KX G ?b5, PySem.W.mg_none_of KX G ?b6, PySem.W.mg_none_of KX G ?b7, PySem.W.mg_none_of KX G ?b8, PySem.W.mg_none_of KX G ?b9, PySem.W.mg_none_of KX G ?b10, PySem.W.mg_none_of KX G ?b11, PySem.W.mg_none_of KX G ?b12, PySem.W.mg_none_of KX G ?b13, PySem.W.mg_none_of KX G ?b14, PySem.W.mg_none_of KX G ?b15, PySem.W.mg_none_of KX G ?b16, PySem.W.mg_none_of KX G ?b17, PySem.W.mg_none_of KX G ?b18, PySem.W.mg_none_of KX G ?b19⟩
      (case b1 => k_is)
      (case b2 => k_is)
      (case b3 => k_is)
      (case b4 => k_is)
      (case b5 => k_is)
      (case b6 => k_is)
      (case b7 => k_is)
      (case b8 => k_is)
      (case b9 => k_is)
      (case b10 => k_is)
      (case b11 => k_is)
      (case b12 => k_is)
      (case b13 => k_is)
      (case b14 => k_is)
      (case b15 => k_is)
      (case b16 => k_is)
      (case b17 => k_is)
      (case b18 => k_is)
      (case b19 => k_is)
    case m_zip =>
      refine' PySem.W.mg_none_of KX G ?a
      (case a => k_is)
    case m_dict =>
      refine' PySem.W.mg_none_of KX G ?a
      (case a => k_is)
    case hP =>
      refine' Rw.plan_has KX G ?aC ?a1 ?i1 ?l1 ?c1 ?k1 ?pg ?hd ?po ?sa ?mk ?kc ?n1 ?n2 ?n3 ?n4 ?n5
      (case aC => k_is)
      (case a1 => k_is)
      (case i1 => k_is)
      (case l1 => k_is)
      (case c1 => k_is)
      (case k1 => k_is)
      (case pg => k_is)
      (case hd => k_is)
      (case po => k_is)
      (case sa => k_is)
      (case mk => k_is)
      (case kc => k_is)
      (case n1 => k_is)
      (case n2 => k_is)
      (case n3 => k_is)
      (case n4 => k_is)
      (case n5 => k_is)
    case hL =>
      refine' Rw.has_mk KX G ?a ?l ?c ?k
      (case a => k_is); (case l => k_is); (case c => k_is); (case k => k_is)
    case h1 =>
      refine' Rw.has_mk KX G ?a ?l ?c ?k
      (case a => k_is); (case l => k_is); (case c => k_is); (case k => k_is)
    case h2 =>
      refine' Rw.has_mk KX G ?a ?l ?c ?k
      (case a => k_is); (case l => k_is); (case c => k_is); (case k => k_is)
    case h3 =>
      refine' Rw.has_mk KX G ?a ?l ?c ?k
      (case a => k_is); (case l => k_is); (case c => k_is); (case k => k_is)
    case h4 =>
      refine' Rw.has_mk KX G ?a ?l ?c ?k
      (case a => k_is); (case l => k_is); (case c => k_is); (case k => k_is)
    case h5 =>
      refine' Rw.has_mk KX G ?a ?l ?c ?k
      (case a => k_is); (case l => k_is); (case c => k_is); (case k => k_is)
    case h6 =>
      refine' Rw.has_mk KX G ?a ?l ?c ?k
      (case a => k_is); (case l => k_is); (case c => k_is); (case k => k_is)
    case h7 =>
      refine' Rw.has_mk KX G ?a ?l ?c ?k
      (case a => k_is); (case l => k_is); (case c => k_is); (case k => k_is)
    case h8 =>
      refine' Rw.has_mk KX G ?a ?l ?c ?k
      (case a => k_is); (case l => k_is); (case c => k_is); (case k => k_is)
    case h9 =>
      refine' Rw.has_mk KX G ?a ?l ?c ?k
      (case a => k_is); (case l => k_is); (case c => k_is); (case k => k_is)
    case h10 =>
      refine' Rw.has_mk KX G ?a ?l ?c ?k
      (case a => k_is); (case l => k_is); (case c => k_is); (case k => k_is)
    case h11 =>
      refine' Rw.has_mk KX G ?a ?l ?c ?k
      (case a => k_is); (case l => k_is); (case c => k_is); (case k => k_is)
    case h12 =>
      refine' Rw.has_mk KX G ?a ?l ?c ?k
      (case a => k_is); (case l => k_is); (case c => k_is); (case k => k_is)
    case h13 =>
      refine' Rw.has_mk KX G ?a ?l ?c ?k
      (case a => k_is); (case l => k_is); (case c => k_is); (case k => k_is)
    case h14 =>
      refine' Rw.has_mk KX G ?a ?l ?c ?k
      (case a => k_is); (case l => k_is); (case c => k_is); (case k => k_is)
    case h15 =>
      refine' Rw.has_mk KX G ?a ?l ?c ?k
      (case a => k_is); (case l => k_is); (case c => k_is); (case k => k_is)
    case h16 =>
      refine' Rw.has_mk KX G ?a ?l ?c ?k
      (case a => k_is); (case l => k_is); (case c => k_is); (case k => k_is)
    case h17 =>
      refine' Rw.has_mk KX G ?a ?l ?c ?k
      (case a => k_is); (case l => k_is); (case c => k_is); (case k => k_is)
    case h18 =>
      refine' Rw.has_mk KX G ?a ?l ?c ?k
      (case a => k_is); (case l => k_is); (case c => k_is); (case k => k_is)
    case h19 =>
      refine' Rw.has_mk KX G ?a ?l ?c ?k
      (case a => k_is); (case l => k_is); (case c => k_is); (case k => k_is)
    case h20 =>
      refine' Rw.has_mk KX G ?a ?l ?c ?k
      (case a => k_is); (case l => k_is); (case c => k_is); (case k => k_is)
